package query_test

import (
	"math/rand"
	"reflect"
	"strings"
	"sync"
	"testing"

	"dumbwaiter/api"
	"dumbwaiter/query"
)

// given is arguments for all functions.
type given struct {
	M        api.Model
	W        api.World
	F        api.Find
	X        api.Total
	Params   []api.Value
	Kinds    []int
	Entity   string
	Path     string
	Relation string
	O        api.Ref
	E        api.Expr
	Row      []api.Value
	Include  []string
	Text     string
	ExprText string
	Tenant   int
	Gone     bool
}

// givenOf is right arguments at random.
func givenOf(seed int) given {
	r := makerOf(seed)
	g := given{M: r.m, W: r.world(4), F: r.find(), X: r.total(), Params: r.params, Kinds: paramKinds, Tenant: r.Intn(3), Gone: r.chance(2)}
	g.Entity = g.F.Entity
	g.E = r.condition(api.Bool, 3, at{g.Entity, ""})
	if r.chance(2) {
		g.F.Where, g.F.Order = []api.Expr{withoutParams(g.E)}, orders("id")
	}
	if len(g.W.Objects) > 0 {
		o := g.W.Objects[r.Intn(len(g.W.Objects))]
		g.O = ref(o.Entity, o.Tenant, o.ID)
	}
	g.Path = r.path(g.Entity, api.Int, 3)
	ones, others := r.membersOf(g.Entity)
	for _, x := range append(ones, others...) {
		g.Relation = x.Name
		g.Include = append(g.Include, x.Name)
		g.F.Include = append(g.F.Include, x.Name)
	}
	rows, _ := query.Answer(g.M, g.W, api.Find{Entity: g.Entity, Gone: true, Limit: 1}, nil)
	for _, row := range rows {
		g.Row = row
	}
	g.Text, _ = query.Text(g.F)
	g.ExprText, _ = query.ExprText(g.E)
	return clone(g)
}

// outcome is the results of a call, by the name of the function.
type outcome struct {
	name    string
	results []any
}

// err is the error of a call.
func (o outcome) err() api.Errno {
	err, _ := o.results[len(o.results)-1].(api.Errno)
	return err
}

// two is the results of a call.
func two[A any](name string) func(a A, err api.Errno) outcome {
	return func(a A, err api.Errno) outcome { return outcome{name, []any{a, err}} }
}

// callAll calls all functions.
func callAll(g given) []outcome {
	var told []string
	query.Paths(g.M, g.F, func(entity, path string) { told = append(told, entity, path) })
	return []outcome{
		two[api.Slot]("Path")(query.Path(g.M, g.Entity, g.Path)),
		two[string]("Many")(query.Many(g.M, g.Entity, g.Relation)),
		two[[]api.Ref]("Related")(query.Related(g.M, g.W, g.O, g.Relation)),
		two[api.World]("Seen")(query.Seen(g.M, g.W, g.Tenant, g.Gone)),
		two[api.Value]("Look")(query.Look(g.M, g.W, g.O, g.Path)),
		two[int]("KindOf")(query.KindOf(g.M, g.Entity, g.E, g.Kinds)),
		two[api.Value]("Holds")(query.Holds(g.M, g.W, g.O, g.E, g.Params)),
		{"Check", []any{query.Check(g.M, g.F, g.Kinds)}},
		two[int]("Weight")(query.Weight(g.M, g.F)),
		two[[]api.Slot]("Columns")(query.Columns(g.M, g.Entity)),
		two[[]api.Ref]("Objects")(query.Objects(g.M, g.W, g.F, g.Params)),
		two[[][]api.Value]("Answer")(query.Answer(g.M, g.W, g.F, g.Params)),
		two[api.Object]("Object")(query.Object(g.M, g.Entity, g.Row)),
		two[api.Statement]("Compile")(query.Compile(g.M, g.F, g.Kinds)),
		two[api.Find]("After")(query.After(g.M, g.F, g.Row)),
		{"CheckTotal", []any{query.CheckTotal(g.M, g.X, g.Kinds)}},
		two[[][]api.Value]("Totals")(query.Totals(g.M, g.W, g.X, g.Params)),
		two[api.Statement]("CompileTotal")(query.CompileTotal(g.M, g.X, g.Kinds)),
		two[[]api.Step]("Steps")(query.Steps(g.M, g.Entity, g.Include)),
		two[string]("ExprText")(query.ExprText(g.E)),
		two[api.Expr]("ExprRead")(query.ExprRead(g.ExprText)),
		two[string]("Text")(query.Text(g.F)),
		two[api.Find]("Read")(query.Read(g.Text)),
		{"Paths", []any{told, api.OK}},
	}
}

// spoilable are all places of a value that can be changed.
func spoilable(v reflect.Value, l []reflect.Value) []reflect.Value {
	switch v.Kind() {
	case reflect.Struct:
		for i := range v.NumField() {
			l = spoilable(v.Field(i), l)
		}
		return l
	case reflect.Slice:
		for i := range v.Len() {
			l = spoilable(v.Index(i), l)
		}
	}
	return append(l, v)
}

// spoil makes a change without any rule.
func spoil(r *rand.Rand, x any) {
	places := spoilable(reflect.ValueOf(x).Elem(), nil)
	v := places[r.Intn(len(places))]
	numbers := []int{0, 1, -1, 2, 3, 4, 5, 6, 10, 21, 22, 23, 24, 25, api.MaxInt, api.MaxInt + 1, 1<<63 - 1, -1 << 63}
	texts := []string{"", "a", "b", "up", "id", ".", "a.b", "ra0", "mra0", "x", "é", "\n", long(41), long(101)}
	switch v.Kind() {
	case reflect.Int:
		v.SetInt(int64(numbers[r.Intn(len(numbers))]))
	case reflect.String:
		v.SetString(texts[r.Intn(len(texts))])
	case reflect.Bool:
		v.SetBool(!v.Bool())
	case reflect.Slice:
		spoilList(r, v)
	}
}

// spoilList makes a list longer, shorter, or gives it something from elsewhere.
func spoilList(r *rand.Rand, v reflect.Value) {
	whole := v.Slice3(0, v.Len(), v.Len())
	switch n := r.Intn(4); {
	case n == 0:
		v.Set(reflect.Append(whole, reflect.Zero(v.Type().Elem())))
	case n == 1 && v.Len() > 0:
		v.Set(reflect.Append(whole, cloneValue(v.Index(r.Intn(v.Len())))))
	case n == 2 && v.Type() == reflect.TypeFor[[]api.Expr]():
		more := []api.Expr{lit(null), col("up", "id"), col("", "a.id"), multi(api.XSome, "a"), multi(api.XEvery, ""), {Kind: api.XIs, Source: "up", Name: "a"}, {Kind: api.XExists}, {Kind: 99}, {Kind: api.XParam}}
		v.Set(reflect.Append(whole, reflect.ValueOf(more[r.Intn(len(more))])))
	case v.Len() > 0:
		v.Set(v.Slice(0, v.Len()-1))
	}
}

// Z1, Z3: no function panics for strange arguments, and with an error all other results are zero.
func TestStrangeArguments(t *testing.T) {
	errors := map[string]map[api.Errno]int{}
	for seed := range 2000 {
		r := rand.New(rand.NewSource(int64(seed)))
		g := givenOf(seed % 500)
		parts := []any{&g.F, &g.F, &g.X, &g.X, &g.E, &g.E, &g.F.Where, &g.Row, &g.Params, &g.Kinds, &g.Text, &g.ExprText, &g.M, &g.W, &g.O, &g.Entity, &g.Path, &g.Relation, &g.Include, &g.Tenant}
		for range 1 + r.Intn(3) {
			spoil(r, parts[r.Intn(len(parts))])
		}
		for _, o := range callAll(g) {
			if errors[o.name] == nil {
				errors[o.name] = map[api.Errno]int{}
			}
			errors[o.name][o.err()]++
			for _, x := range o.results[:len(o.results)-1] {
				if o.err() != api.OK && !same(x, reflect.Zero(reflect.TypeOf(x)).Interface()) {
					t.Error(seed, o)
				}
			}
		}
	}
	for name, l := range errors {
		if l[api.OK] == 0 || len(l) < 2 && name != "Paths" {
			t.Error(name, l)
		}
	}
}

// Z1: arguments with many elements, and nested ones.
func TestLargeArguments(t *testing.T) {
	const most = 100000
	m, w := zoo(t), zooWorld(t)
	points := strings.Repeat("mate.", most/5)
	deep := nested(990, lit(null))
	for _, e := range []api.Expr{deep, {Kind: api.XIn, Args: many(most-1, lit(null))}, multi(api.XSome, "pets", deep), op(api.OpNot, many(most-1, multi(api.XSome, "x"))...)} {
		_, e1 := query.KindOf(m, "person", e, nil)
		_, e2 := query.Holds(m, w, ref("person", 0, 1), e, nil)
		_, e3 := query.ExprText(e)
		_, e4 := query.Text(api.Find{Entity: "a", Where: []api.Expr{e}})
		e5 := query.Check(m, api.Find{Entity: "person", Where: []api.Expr{e}}, nil)
		e6 := query.CheckTotal(m, api.Total{Entity: "person", Aggs: []api.Agg{{Op: api.AggRows}}, Having: []api.Expr{e}}, make([]int, 0))
		for i, err := range []api.Errno{e1, e2, e3, e4, e5, e6} {
			if err != api.ErrLarge {
				t.Error(i, err)
			}
		}
		query.Paths(m, api.Find{Entity: "person", Where: []api.Expr{e}}, func(entity, path string) { t.Error(entity, path) })
	}
	_, e1 := query.Path(m, "person", points)
	_, e2 := query.Many(m, "person", points)
	_, e3 := query.KindOf(m, "person", col("", points), nil)
	_, e4 := query.KindOf(m, "person", api.Expr{Kind: api.XIs, Source: points}, nil)
	_, e5 := query.Steps(m, "person", []string{points})
	_, e6 := query.Steps(m, "person", make([]string, most))
	e7 := query.Check(m, api.Find{Entity: "person", Order: make([]api.By, most)}, nil)
	e8 := query.CheckTotal(m, api.Total{Entity: "person", Group: make([]string, most), Aggs: make([]api.Agg, most)}, nil)
	_, e9 := query.Text(api.Find{Entity: "a", Include: strings.Split(strings.Repeat("abc ", most/2), " ")[:most/2]})
	for i, err := range []api.Errno{e1, e2, e3, e4, e5, e6, e7, e8, e9} {
		if err != api.ErrLarge {
			t.Error(i, err)
		}
	}
	if _, err := query.Object(m, "person", make([]api.Value, most)); err != api.ErrForm {
		t.Error(err)
	}
	if l, err := query.Objects(m, w, api.Find{Entity: "person", Where: []api.Expr{{Kind: api.XParam, N: most - 1}}, Limit: -1}, make([]api.Value, most)); err != api.OK || len(l) > 0 {
		t.Error(l, err)
	}
}

// spaced is a deep copy in which each slice, empty ones too, has spare memory, and all of that memory.
func spaced(v reflect.Value, spare *[]reflect.Value) reflect.Value {
	c := reflect.New(v.Type()).Elem()
	switch v.Kind() {
	case reflect.Slice:
		whole := reflect.MakeSlice(v.Type(), v.Len()+2, v.Len()+2)
		for i := range v.Len() {
			whole.Index(i).Set(spaced(v.Index(i), spare))
		}
		*spare = append(*spare, whole.Index(v.Len()), whole.Index(v.Len()+1))
		c.Set(whole.Slice(0, v.Len()))
	case reflect.Struct:
		for i := range v.NumField() {
			c.Field(i).Set(spaced(v.Field(i), spare))
		}
	default:
		c.Set(v)
	}
	return c
}

// scribble overwrites all memory behind the slices of a value, also the spare one.
func scribble(v reflect.Value) {
	switch v.Kind() {
	case reflect.Slice:
		whole := v.Slice(0, v.Cap())
		for i := range whole.Len() {
			scribble(whole.Index(i))
			whole.Index(i).SetZero()
		}
	case reflect.Struct:
		for i := range v.NumField() {
			scribble(v.Field(i))
		}
	}
}

// Z2: arguments are neither modified, nor is the memory behind them, nor retained; results share no memory with them, with other results, or within themselves.
func TestMemory(t *testing.T) {
	for seed := range 300 {
		var spare []reflect.Value
		g := spaced(reflect.ValueOf(givenOf(seed)), &spare).Interface().(given)
		results := callAll(g)
		want := callAll(givenOf(seed))
		if !same(g, givenOf(seed)) {
			t.Fatal(seed, "changed")
		}
		for _, v := range spare {
			if !v.IsZero() {
				t.Fatal(seed, "changed behind the end")
			}
		}
		scribble(reflect.ValueOf(g))
		seen := map[uintptr]string{}
		for i, o := range results {
			for k, x := range o.results {
				if !same(x, want[i].results[k]) {
					t.Fatal(seed, o.name, "retained")
				}
				checkApart(t, o.name, reflect.ValueOf(x), seen)
			}
		}
	}
}

// checkApart checks that no two slices share memory, spare memory too.
func checkApart(t *testing.T, name string, v reflect.Value, seen map[uintptr]string) {
	t.Helper()
	switch v.Kind() {
	case reflect.Slice:
		size := v.Type().Elem().Size()
		for i := range v.Cap() {
			at := v.Pointer() + uintptr(i)*size
			if other := seen[at]; other != "" {
				t.Fatal("slices share memory", name, other)
			}
			seen[at] = name
		}
		for i := range v.Len() {
			checkApart(t, name, v.Index(i), seen)
		}
	case reflect.Struct:
		for i := range v.NumField() {
			checkApart(t, name, v.Field(i), seen)
		}
	}
}

// swapped is a copy in which nil slices are empty ones, and the other way round.
func swapped(v reflect.Value) reflect.Value {
	c := reflect.New(v.Type()).Elem()
	switch {
	case v.Kind() == reflect.Struct:
		for i := range v.NumField() {
			c.Field(i).Set(swapped(v.Field(i)))
		}
	case v.Kind() == reflect.Slice && v.IsNil():
		c.Set(reflect.MakeSlice(v.Type(), 0, 0))
	case v.Kind() == reflect.Slice && v.Len() > 0:
		c.Set(reflect.MakeSlice(v.Type(), v.Len(), v.Len()))
		for i := range v.Len() {
			c.Index(i).Set(swapped(v.Index(i)))
		}
	case v.Kind() != reflect.Slice:
		c.Set(v)
	}
	return c
}

// checkSame checks that calls have had the same results.
func checkSame(t *testing.T, got, want []outcome) {
	t.Helper()
	for i, o := range got {
		for k, x := range o.results {
			if !same(x, want[i].results[k]) {
				t.Error(o.name, x, want[i].results[k])
			}
		}
	}
}

// Z4: empty and nil slices are equivalent.
func TestEmptyAndNil(t *testing.T) {
	for seed := range 300 {
		g := givenOf(seed)
		checkSame(t, callAll(swapped(reflect.ValueOf(g)).Interface().(given)), callAll(g))
	}
}

// Z2, Z10: there is no state between calls, also with several goroutines.
func TestGoroutines(t *testing.T) {
	var group sync.WaitGroup
	for start := range 8 {
		group.Go(func() {
			for seed := range 60 {
				g := givenOf((seed + start*7) % 60)
				checkSame(t, callAll(g), callAll(g))
			}
		})
	}
	group.Wait()
}
