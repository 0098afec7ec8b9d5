package value_test

import (
	"math/rand"
	"reflect"
	"sync"
	"testing"

	"dumbwaiter/api"
	"dumbwaiter/value"
)

// strangeExpr makes expressions without any rule.
func strangeExpr(r *rand.Rand, levels int) api.Expr {
	values := all()
	ints := []int{0, 0, 0, 1, 2, 3, 4, 5, 7, 26, 27, 28, -1, 59, 60, 1<<63 - 1, -1 << 63}
	names := []string{"", "", "a", "i", "é", "x"}
	pick := func() int { return ints[r.Intn(len(ints))] }
	e := api.Expr{Kind: r.Intn(8), Op: pick(), N: pick(), Source: names[r.Intn(len(names))], Name: names[r.Intn(len(names))]}
	if r.Intn(2) == 0 {
		e = api.Expr{Kind: 1 + r.Intn(6)}
		e.Op = map[bool]int{true: 1 + r.Intn(27)}[e.Kind == api.XOp]
		e.N = map[bool]int{true: pick()}[e.Kind == api.XParam || e.Op > api.OpCoalesce]
	}
	if r.Intn(2) == 0 {
		e.Value = values[r.Intn(len(values))]
	}
	e.Distinct = r.Intn(20) == 0
	if r.Intn(20) == 0 {
		e.Sub = []api.Select{{}}
	}
	for range r.Intn(4) {
		if levels > 1 {
			e.Args = append(e.Args, strangeExpr(r, levels-1))
		}
	}
	return e
}

// Z1: no function panics, and Z3: with an error all other results are zero.
func TestNoPanicsForStrangeExprs(t *testing.T) {
	r := rand.New(rand.NewSource(3))
	columns := []api.Cell{{Name: "i", Kind: api.Int}, {Source: "x", Kind: -7}, {Source: "x", Name: "a", Kind: 1<<63 - 1}, {}}
	row := []api.Value{{Kind: 9}, integer(1), text("a"), {Kind: api.Text, N: 1}}
	for range 30000 {
		e := strangeExpr(r, 1+r.Intn(4))
		if kind, err := value.KindOf(e, columns, []int{1, 2}); err != api.OK && kind != 0 {
			t.Fatal(e, kind, err)
		}
		if v, err := value.Eval(e, columns, row, []api.Value{integer(1), {Kind: -1}}); err != api.OK && v != null || !isRight(v) {
			t.Fatal(e, v, err)
		}
		if s, err := value.ExprText(e); (s == "") != (err != api.OK) {
			t.Fatal(e, s, err)
		}
	}
}

// Z1: no function panics, and every result is right.
func TestNoPanicsForStrangeValues(t *testing.T) {
	for _, a := range all() {
		for _, b := range all() {
			results := []api.Value{
				value.And(a, b), value.Or(a, b), value.Not(a), value.Equal(a, b), value.Less(a, b), value.Same(a, b), value.In(a, []api.Value{b}),
				value.Add(a, b), value.Sub(a, b), value.Mul(a, b), value.Div(a, b), value.Mod(a, b), value.Neg(a),
				value.Concat(a, b), value.Length(a), value.Lower(a), value.Upper(a), value.Part(a, b, b), value.Part(text("a"), a, b), value.Like(a, b),
				value.Unit(a, b.N), value.Trunc(a, b.N), value.Months(a, b), value.Cast(a, b.Kind), value.Cast(a, b.N), value.Date(a.N, b.N, a.N, b.N, a.N, b.N),
			}
			for i, v := range results {
				if !isRight(v) {
					t.Error(i, a, b, v)
				}
			}
		}
	}
}

// Z2: arguments are neither modified nor retained.
func TestArgumentsStayAsTheyAre(t *testing.T) {
	values := all()
	l := all()
	key := value.Key(l)
	value.Hash(l)
	value.CompareLists(l, l)
	value.In(l[3], l)
	if !reflect.DeepEqual(l, values) {
		t.Error("list")
	}
	bytes := []byte(string(key))
	got, _ := value.FromKey(bytes)
	want, _ := value.FromKey(key)
	if string(bytes) != string(key) {
		t.Error("key")
	}
	for i := range bytes {
		bytes[i] = 0
	}
	if !reflect.DeepEqual(got, want) {
		t.Error("FromKey keeps its argument")
	}
	for _, x := range written() {
		e := x.e
		columns, row, params, kinds := kindColumns(), make([]api.Value, 8), make([]api.Value, 2, 9), []int{1, 2}
		value.KindOf(e, columns, kinds)
		value.Eval(e, columns, row, params)
		value.ExprText(e)
		if again, _ := value.ExprRead(x.want); !reflect.DeepEqual(e, again) {
			t.Error("expression", x.want)
		}
		if !reflect.DeepEqual(columns, kindColumns()) || !reflect.DeepEqual(row, make([]api.Value, 8)) || !reflect.DeepEqual(params[:9], make([]api.Value, 9)) || !reflect.DeepEqual(kinds, []int{1, 2}) {
			t.Error("arguments", x.want)
		}
	}
}

// Z2: results share no memory, also not their spare capacity.
func TestResultsAreNew(t *testing.T) {
	l := ordered()
	a, b := value.Key(l), value.Key(l)
	clear(a[:cap(a)])
	if c := value.Key(l); string(b) != string(c) {
		t.Error("Key")
	}
	v, _ := value.FromKey(b)
	w, _ := value.FromKey(b)
	clear(v[:cap(v)])
	if !reflect.DeepEqual(w, l) {
		t.Error("FromKey")
	}
	const s = "coalesce(coalesce(:a,:b,:c),coalesce(:d,:e,:f),coalesce(:g,:h,:i))"
	e, _ := value.ExprRead(s)
	for i := range e.Args {
		args := e.Args[i].Args
		for k := range args[:cap(args)] {
			args[:cap(args)][k] = column("z")
		}
	}
	if got, _ := value.ExprText(e); got != "coalesce(coalesce(:z,:z,:z),coalesce(:z,:z,:z),coalesce(:z,:z,:z))" {
		t.Error(got)
	}
	if e, _ := value.ExprRead(s); e.Args[1].Args[0].Name != "d" {
		t.Error("ExprRead")
	}
}

// Z4: empty and nil slices are equivalent.
func TestEmptyAndNil(t *testing.T) {
	e := op(api.OpAdd, lit(integer(1)), lit(integer(2)))
	e.Sub, e.Group, e.Order = []api.Select{}, []api.Expr{}, []api.Order{}
	e.Args[0].Args = []api.Expr{}
	if kind, err := value.KindOf(e, []api.Cell{}, []int{}); kind != api.Int || err != api.OK {
		t.Error(kind, err)
	}
	if v, err := value.Eval(e, nil, []api.Value{}, []api.Value{}); v != integer(3) || err != api.OK {
		t.Error(v, err)
	}
	if s, err := value.ExprText(e); s != "add(1,2)" || err != api.OK {
		t.Error(s, err)
	}
	if len(value.Key([]api.Value{})) != 0 || value.Hash([]api.Value{}) != value.Hash(nil) || value.In(integer(1), []api.Value{}) != boolean(0) {
		t.Error("lists")
	}
}

// Z2, Z10: there is no state between calls, also with several goroutines.
func TestGoroutines(t *testing.T) {
	var group sync.WaitGroup
	for range 8 {
		group.Add(1)
		go func() {
			defer group.Done()
			for range 20 {
				for _, x := range written() {
					s, err := value.ExprText(x.e)
					e, readErr := value.ExprRead(s)
					if err != api.OK || readErr != api.OK || s != x.want || !reflect.DeepEqual(e, x.e) {
						t.Error(x.want, s, err, readErr)
					}
				}
			}
		}()
	}
	group.Wait()
}
