package sql_test

import (
	"math/rand"
	"reflect"
	"sync"
	"testing"

	"dumbwaiter/api"
	"dumbwaiter/sql"
)

// given is arguments for all functions.
type given struct {
	S       api.Schema
	D       api.Data
	St      api.Statement
	Params  []api.Value
	Kinds   []int
	Text    string
	Dialect int
}

// givenOf is right arguments with a statement at random.
func givenOf(t testing.TB, seed int) given {
	st, d, params := made(shop(t), seed)
	g := given{S: shop(t), D: d, St: st, Params: params, Kinds: st.Params, Dialect: 1 + seed%3}
	g.Text, _ = sql.Print(g.S, st, g.Dialect)
	return clone(g)
}

// outcome is the results of a call, by the name of the function.
type outcome struct {
	name    string
	results []any
}

// err is the error of a call, if it has one.
func (o outcome) err() api.Errno {
	err, _ := o.results[len(o.results)-1].(api.Errno)
	return err
}

// callAll calls all functions. Those that execute do it on the stock.
func callAll(t testing.TB, g given) []outcome {
	var l []outcome
	add := func(name string, results ...any) { l = append(l, outcome{name, results}) }
	add("Check", sql.Check(g.S, g.St))
	h, err := sql.Headings(g.S, g.St)
	add("Headings", h, err)
	add("Tables", sql.Tables(g.St))
	add("Equal", sql.Equal(g.St, g.St))
	b, err := sql.Bind(g.S, g.St, g.Params)
	add("Bind", b, err)
	rows, err := sql.Answer(g.S, g.D, g.St, g.Params)
	add("Answer", rows, err)
	d, n, err := sql.Effect(g.S, g.D, g.St, g.Params)
	add("Effect", d, n, err)
	s, err := sql.Print(g.S, g.St, g.Dialect)
	add("Print", s, err)
	p, err := sql.Parse(g.S, g.Text, g.Dialect, g.Kinds)
	add("Parse", p, err)
	is, err := sql.Native(g.S, g.St, g.Dialect)
	add("Native", is, err)
	a, err := sql.Plan(g.S, g.St)
	add("Plan", a, err)
	s, err = sql.Explain(g.S, g.St)
	add("Explain", s, err)
	x := stocked(t).Begin()
	r, err := sql.Run(x, g.St, g.Params)
	add("Run", r, err)
	r, err = sql.RunText(x, g.Text, g.Dialect, g.Kinds, g.Params)
	add("RunText", r, err)
	after, err := x.Data()
	add("Data", after, err)
	return l
}

// spoilable are all places of a value that can be changed.
func spoilable(v reflect.Value, l []reflect.Value) []reflect.Value {
	switch v.Kind() {
	case reflect.Struct:
		for i := range v.NumField() {
			l = spoilable(v.Field(i), l)
		}
		return l
	case reflect.Slice:
		for i := range v.Len() {
			l = spoilable(v.Index(i), l)
		}
	}
	return append(l, v)
}

// spoil makes a change without any rule.
func spoil(r *rand.Rand, x any) {
	places := spoilable(reflect.ValueOf(x).Elem(), nil)
	v := places[r.Intn(len(places))]
	numbers := []int{0, 1, -1, 2, 3, 4, 5, 6, 7, 8, 9, 10, 27, api.MaxInt, api.MaxInt + 1, 1<<63 - 1, -1 << 63}
	texts := []string{"", "a", "s1", "s2", "pet", "person", "none", "id", "n", "i10", "é", "\n", long(41), long(101)}
	switch v.Kind() {
	case reflect.Int:
		v.SetInt(int64(numbers[r.Intn(len(numbers))]))
	case reflect.String:
		v.SetString(texts[r.Intn(len(texts))])
	case reflect.Bool:
		v.SetBool(!v.Bool())
	case reflect.Slice:
		spoilList(r, v)
	}
}

// spoilList makes a list longer, shorter, or gives it something from elsewhere.
func spoilList(r *rand.Rand, v reflect.Value) {
	whole := v.Slice3(0, v.Len(), v.Len())
	switch n := r.Intn(4); {
	case n == 0:
		v.Set(reflect.Append(whole, reflect.Zero(v.Type().Elem())))
	case n == 1 && v.Len() > 0:
		v.Set(reflect.Append(whole, cloneValue(v.Index(r.Intn(v.Len())))))
	case n == 2 && v.Type() == reflect.TypeFor[[]api.Expr]():
		more := []api.Expr{num(1), col("s1", "id"), agg(api.AggRows), agg(api.AggSum, col("s1", "n")), win(api.WinRow, nil, nil), exists(ids("pet", "s1")), {Kind: 99}, par(0)}
		v.Set(reflect.Append(whole, reflect.ValueOf(more[r.Intn(len(more))])))
	case v.Len() > 0:
		v.Set(v.Slice(0, v.Len()-1))
	}
}

// Z1, Z3: no function panics for strange arguments, and with an error all other results are zero.
func TestStrangeArguments(t *testing.T) {
	errors := map[api.Errno]int{}
	for seed := range 3000 {
		r := rand.New(rand.NewSource(int64(seed)))
		g := givenOf(t, seed%1000)
		parts := []any{&g.St, &g.St, &g.St, &g.St, &g.Params, &g.Kinds, &g.Text, &g.Dialect, &g.S, &g.D}
		for range r.Intn(4) {
			spoil(r, parts[r.Intn(len(parts))])
		}
		if got, want := sql.Equal(g.St, givenOf(t, seed%1000).St), same(g.St, givenOf(t, seed%1000).St); got != want {
			t.Error(seed, "Equal", got)
		}
		for _, o := range callAll(t, g) {
			errors[o.err()]++
			for _, x := range o.results[:len(o.results)-1] {
				if o.err() != api.OK && !same(x, reflect.Zero(reflect.TypeOf(x)).Interface()) {
					t.Error(seed, o.name, o.results)
				}
			}
			if b, is := o.results[0].(api.Statement); is && o.err() == api.OK && sql.Check(g.S, b) != api.OK {
				t.Error(seed, o.name)
			}
		}
	}
	for _, err := range []api.Errno{api.OK, api.ErrArg, api.ErrLarge, api.ErrForm, api.ErrKind, api.ErrName, api.ErrTwice, api.ErrOrder, api.ErrType, api.ErrNull, api.ErrKey, api.ErrRef, api.ErrSyntax, api.ErrState} {
		if errors[err] == 0 {
			t.Error("never", err)
		}
	}
}

// scribble overwrites all memory behind the slices of a value, also the spare one.
func scribble(x any) { scribbleValue(reflect.ValueOf(x)) }

func scribbleValue(v reflect.Value) {
	switch v.Kind() {
	case reflect.Slice:
		whole := v.Slice(0, v.Cap())
		for i := range whole.Len() {
			scribbleValue(whole.Index(i))
			whole.Index(i).SetZero()
		}
	case reflect.Struct:
		for i := range v.NumField() {
			scribbleValue(v.Field(i))
		}
	}
}

// spaced is a deep copy in which each slice, empty ones too, has spare memory, and all of that memory.
func spaced(v reflect.Value, spare *[]reflect.Value) reflect.Value {
	c := reflect.New(v.Type()).Elem()
	switch v.Kind() {
	case reflect.Slice:
		whole := reflect.MakeSlice(v.Type(), v.Len()+2, v.Len()+2)
		for i := range v.Len() {
			whole.Index(i).Set(spaced(v.Index(i), spare))
		}
		*spare = append(*spare, whole.Index(v.Len()), whole.Index(v.Len()+1))
		c.Set(whole.Slice(0, v.Len()))
	case reflect.Struct:
		for i := range v.NumField() {
			c.Field(i).Set(spaced(v.Field(i), spare))
		}
	default:
		c.Set(v)
	}
	return c
}

// Z2: arguments are neither modified, nor is the memory behind them, nor retained; results share no memory with them, with other results, or within themselves.
func TestMemory(t *testing.T) {
	for seed := range 600 {
		var spare []reflect.Value
		g := spaced(reflect.ValueOf(givenOf(t, seed)), &spare).Interface().(given)
		results := callAll(t, g)
		want := callAll(t, givenOf(t, seed))
		if !same(g, givenOf(t, seed)) {
			t.Fatal(seed, "changed")
		}
		for _, v := range spare {
			if !v.IsZero() {
				t.Fatal(seed, "changed behind the end")
			}
		}
		scribble(g)
		seen := map[uintptr]string{}
		for i, o := range results {
			for k, x := range o.results {
				if !same(x, want[i].results[k]) {
					t.Fatal(seed, o.name, "retained")
				}
				checkApart(t, o.name, reflect.ValueOf(x), seen)
			}
		}
	}
}

// checkApart checks that no two slices share memory, spare memory too.
func checkApart(t *testing.T, name string, v reflect.Value, seen map[uintptr]string) {
	t.Helper()
	switch v.Kind() {
	case reflect.Slice:
		size := v.Type().Elem().Size()
		for i := range v.Cap() {
			at := v.Pointer() + uintptr(i)*size
			if other := seen[at]; other != "" {
				t.Fatal("slices share memory", name, other)
			}
			seen[at] = name
		}
		for i := range v.Len() {
			checkApart(t, name, v.Index(i), seen)
		}
	case reflect.Struct:
		for i := range v.NumField() {
			checkApart(t, name, v.Field(i), seen)
		}
	}
}

// swapped is a copy in which nil slices are empty ones, and the other way round.
func swapped(v reflect.Value) reflect.Value {
	c := reflect.New(v.Type()).Elem()
	switch {
	case v.Kind() == reflect.Struct:
		for i := range v.NumField() {
			c.Field(i).Set(swapped(v.Field(i)))
		}
	case v.Kind() == reflect.Slice && v.IsNil():
		c.Set(reflect.MakeSlice(v.Type(), 0, 0))
	case v.Kind() == reflect.Slice && v.Len() > 0:
		c.Set(reflect.MakeSlice(v.Type(), v.Len(), v.Len()))
		for i := range v.Len() {
			c.Index(i).Set(swapped(v.Index(i)))
		}
	case v.Kind() != reflect.Slice:
		c.Set(v)
	}
	return c
}

// Z4: empty and nil slices are equivalent.
func TestEmptyAndNil(t *testing.T) {
	for seed := range 300 {
		g := givenOf(t, seed)
		want := callAll(t, g)
		other := swapped(reflect.ValueOf(g)).Interface().(given)
		if !sql.Equal(g.St, other.St) {
			t.Error(seed)
		}
		checkSame(t, callAll(t, other), want)
	}
}

// checkSame checks that calls have had the same results.
func checkSame(t *testing.T, got, want []outcome) {
	t.Helper()
	for i, o := range got {
		for k, x := range o.results {
			if !same(x, want[i].results[k]) {
				t.Error(o.name, x, want[i].results[k])
			}
		}
	}
}

// Z2, Z10: there is no state between calls, also with several goroutines.
func TestGoroutines(t *testing.T) {
	var group sync.WaitGroup
	for start := range 8 {
		group.Go(func() {
			for seed := range 60 {
				g := givenOf(t, (seed+start*7)%60)
				checkSame(t, callAll(t, g), callAll(t, g))
			}
		})
	}
	group.Wait()
}

// P4.8: Equal tells each field.
func TestEqual(t *testing.T) {
	base := usual()
	base.Table, base.Name, base.Columns = "t", "n", []string{"a"}
	base.Rows, base.Sets = [][]api.Expr{{num(1)}}, exprs(num(2))
	base.Where = exprs(api.Expr{Kind: 1, Group: exprs(num(1)), Order: []api.Order{by(num(1))}, Sub: selects(usual().Select[0])})
	if !sql.Equal(base, clone(base)) {
		t.Error("equal")
	}
	n := len(spoilable(reflect.ValueOf(&base).Elem(), nil))
	for i := range n {
		x := clone(base)
		v := spoilable(reflect.ValueOf(&x).Elem(), nil)[i]
		switch v.Kind() {
		case reflect.Int:
			v.SetInt(v.Int() + 1)
		case reflect.String:
			v.SetString(v.String() + "x")
		case reflect.Bool:
			v.SetBool(!v.Bool())
		case reflect.Slice:
			v.Set(reflect.Append(v, reflect.Zero(v.Type().Elem())))
		}
		if sql.Equal(base, x) || sql.Equal(x, base) {
			t.Error(i, v)
		}
	}
	if n < 300 {
		t.Error(n)
	}
}

// Z1: arguments with many elements, and nested ones.
func TestLargeArguments(t *testing.T) {
	const most = 100000
	s := shop(t)
	deep := num(1)
	for range 900 {
		deep = op(api.OpNeg, deep)
	}
	q := people0(num(1))
	for range 300 {
		q = people0(scalar(q))
	}
	for i, st := range []api.Statement{
		query(people(in(many(most, num(1))...))), query(people(deep)), query(q), query(people(num(1)), make([]int, most)...),
		query(with(people(num(1)), func(q *api.Select) { q.From = make([]api.Source, most) })), query(with(people(num(1)), func(q *api.Select) { q.Joins = make([]api.Join, most/2) })), query(with(people(num(1)), func(q *api.Select) { q.Items = make([]api.Item, most/2) })), query(with(people(num(1)), func(q *api.Select) { q.Order = make([]api.Order, most/2) })),
		{Kind: api.StSelect, Select: make([]api.Select, most)}, {Kind: api.StInsert, Table: "pet", Columns: []string{"id"}, Rows: append(make([][]api.Expr, most), many(most, num(1)))},
	} {
		if err := sql.Check(s, st); err != api.ErrLarge {
			t.Error(i, err)
		}
		if !sql.Equal(st, st) || len(sql.Tables(st)) > 1 {
			t.Error(i)
		}
	}
	if err := sql.Check(s, api.Statement{Kind: api.StInsert, Table: "pet", Columns: make([]string, most), Rows: make([][]api.Expr, most)}); err != api.ErrName {
		t.Error(err)
	}
	if _, err := sql.Run(stocked(t).Begin(), query(people(num(1))), make([]api.Value, most)); err != api.ErrForm {
		t.Error(err)
	}
}
