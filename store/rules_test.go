package store_test

import (
	"math/rand"
	"reflect"
	"sync"
	"testing"

	"dumbwaiter/api"
	"dumbwaiter/store"
)

// given is arguments for all functions.
type given struct {
	S      api.Schema
	D      api.Data
	C      api.Change
	L      []api.RowChange
	Table  string
	Index  string
	Key    []api.Value
	Row    []api.Value
	Values []api.Value
	Log    []byte
}

// usual is right arguments.
func usual(t testing.TB) given {
	a := nail(9, 7)
	return given{
		S: depot(t), D: stock(), C: editsOfTables()[0].change,
		L:     []api.RowChange{insert("box", integer(5), null, text("e"), null, null), update("shelf", row(text("right"), integer(1)), text("right"), integer(3), null, boolean(0)), remove("item", integer(8))},
		Table: "item", Index: "byname", Key: row(integer(9)), Row: a, Values: row(text("nut"), integer(5)), Log: stocked(t).Log(),
	}
}

// outcomes is the results of a call, by the name of the function.
type outcomes struct {
	name    string
	results []any
}

// err is the error of a call, if it has one.
func (o outcomes) err() api.Errno {
	err, _ := o.results[len(o.results)-1].(api.Errno)
	return err
}

// callAll calls all functions, and the methods of a store with the stock.
func callAll(t testing.TB, g given) []outcomes {
	var l []outcomes
	add := func(name string, results ...any) { l = append(l, outcomes{name, results}) }
	add("CheckChange", store.CheckChange(g.S, g.C))
	s, d, err := store.Changed(g.S, g.D, g.C)
	add("Changed", s, d, err)
	breaks, err := store.Breaks(g.S, g.D)
	add("Breaks", breaks, err)
	if x, err := store.New(g.S); err == api.OK {
		add("New", x.Schema(), x.Data(), x.Log(), x.Commits())
	} else {
		add("New", x == nil, err)
	}
	if x, err := store.Open(g.Log); err == api.OK {
		add("Open", x.Schema(), x.Data(), x.Log(), x.Commits())
	} else {
		add("Open", x == nil, err)
	}
	x := stocked(t)
	a, b := x.Begin(), x.Begin()
	s, err = a.Schema()
	add("Txn.Schema", s, err)
	d, err = a.Data()
	add("Txn.Data", d, err)
	r, err := a.Get(g.Table, g.Key)
	add("Get", r, err)
	rows, err := a.Scan(g.Table)
	add("Scan", rows, err)
	rows, err = a.Find(g.Table, g.Index, g.Values)
	add("Find", rows, err)
	add("Update", a.Update(g.Table, g.Key, g.Row))
	add("Delete", a.Delete(g.Table, g.Key))
	add("Insert", a.Insert(g.Table, g.Row))
	add("Batch", a.Batch(g.L))
	add("Alter", a.Alter(g.C))
	d, err = a.Data()
	add("Txn.Data", d, err)
	add("Commit", a.Commit())
	add("Commit", b.Commit())
	add("Store", x.Schema(), x.Data(), x.Log(), x.Commits())
	return l
}

// Z2: arguments are neither modified, nor is the memory behind them, nor retained.
func TestArgumentsStayAsTheyAre(t *testing.T) {
	g, changed := spaced(usual(t))
	for _, o := range callAll(t, g) {
		if o.err() != api.OK && o.name != "Commit" {
			t.Error(o)
		}
	}
	if changed() {
		t.Error("changed")
	}
	x, err := store.New(g.S)
	must(t, err)
	a := x.Begin()
	must(t, a.Batch(inserts(g.D)), a.Alter(g.C), a.Batch(g.L), a.Update(g.Table, g.Key, g.Row), a.Insert(g.Table, append(row(integer(77)), g.Row[1:]...)))
	y, err := store.Open(g.Log)
	must(t, err)
	want, _ := a.Data()
	opened := y.Data()
	scribble(g)
	if d, err := a.Data(); err != api.OK || !same(d, want) || !same(y.Data(), opened) || !same(opened, stock()) {
		t.Error("arguments are retained")
	}
	must(t, a.Commit())
	if s, _, _ := store.Changed(depot(t), stock(), usual(t).C); !same(x.Schema(), s) || !same(x.Data(), want) {
		t.Error("arguments are retained")
	}
	z, err := store.Open(x.Log())
	if must(t, err); !same(z.Data(), want) {
		t.Error("log")
	}
}

// Z2: results share no memory with arguments, with stores, with other results, or within themselves.
func TestResultsAreNew(t *testing.T) {
	g := usual(t)
	want, kept := callAll(t, g), callAll(t, g)
	for i, o := range callAll(t, g) {
		for _, x := range o.results {
			checkApart(t, o.name, x)
			scribble(x)
		}
		if !same(g, usual(t)) {
			t.Fatal("arguments share memory with", o.name)
		}
		for k, x := range kept[i].results {
			if !same(x, want[i].results[k]) {
				t.Error("results share memory", o.name)
			}
		}
	}
	x := stocked(t)
	a := x.Begin()
	r, _ := a.Get("item", g.Key)
	l, _ := a.Scan("item")
	m, _ := a.Find("item", "byname", g.Values)
	d, _ := a.Data()
	s, _ := a.Schema()
	for _, y := range []any{r, l, m, d, s, x.Data(), x.Schema(), x.Log()} {
		if reflect.ValueOf(y).IsZero() {
			t.Error("nothing")
		}
		scribble(y)
	}
	if d, _ := a.Data(); !same(d, stock()) || !same(x.Data(), stock()) || !same(x.Schema(), depot(t)) || !same(x.Log(), stocked(t).Log()) {
		t.Error("the store shares memory with results")
	}
	if m, err := a.Find("item", "byname", g.Values); err != api.OK || len(m) != 2 || m[0][5] != text("nut") {
		t.Error(m, err)
	}
}

// checkApart checks that no two slices within a value share memory, spare memory too.
func checkApart(t *testing.T, name string, x any) {
	t.Helper()
	seen := map[uintptr]bool{}
	var visit func(v reflect.Value)
	visit = func(v reflect.Value) {
		switch v.Kind() {
		case reflect.Slice:
			size := v.Type().Elem().Size()
			for i := range v.Cap() {
				if at := v.Pointer() + uintptr(i)*size; seen[at] {
					t.Error("slices share memory", name)
				} else {
					seen[at] = true
				}
			}
			for i := range v.Len() {
				if k := v.Index(i).Kind(); k == reflect.Slice || k == reflect.Struct {
					visit(v.Index(i))
				}
			}
		case reflect.Struct:
			for i := range v.NumField() {
				visit(v.Field(i))
			}
		}
	}
	visit(reflect.ValueOf(x))
}

// Z4: empty and nil slices are equivalent.
func TestEmptyAndNil(t *testing.T) {
	g := usual(t)
	want := callAll(t, g)
	for i, o := range callAll(t, swapEmpty(g)) {
		if !sameResults(o.results, want[i].results) {
			t.Error(o.name, o.results, want[i].results)
		}
	}
}

// sameResults compares results one by one.
func sameResults(a, b []any) bool {
	ok := len(a) == len(b)
	for i := 0; ok && i < len(a); i++ {
		ok = same(a[i], b[i])
	}
	return ok
}

// swapEmpty returns a copy in which nil slices are empty ones, and the other way round.
func swapEmpty[T any](x T) T {
	c := clone(x)
	var visit func(v reflect.Value)
	visit = func(v reflect.Value) {
		switch {
		case v.Kind() == reflect.Struct:
			for i := range v.NumField() {
				visit(v.Field(i))
			}
		case v.Kind() == reflect.Slice && v.IsNil():
			v.Set(reflect.MakeSlice(v.Type(), 0, 0))
		case v.Kind() == reflect.Slice && v.Len() == 0:
			v.SetZero()
		case v.Kind() == reflect.Slice:
			for i := range v.Len() {
				visit(v.Index(i))
			}
		}
	}
	visit(reflect.ValueOf(&c).Elem())
	return c
}

// spoil makes a change without any rule.
func spoil(r *rand.Rand, x any) {
	var places []reflect.Value
	var visit func(v reflect.Value)
	visit = func(v reflect.Value) {
		switch v.Kind() {
		case reflect.Struct:
			for i := range v.NumField() {
				visit(v.Field(i))
			}
			return
		case reflect.Slice:
			for i := range v.Len() {
				visit(v.Index(i))
			}
		}
		places = append(places, v)
	}
	visit(reflect.ValueOf(x).Elem())
	spoilPlace(r, places[r.Intn(len(places))])
}

// spoilPlace changes a number, a text, a flag or a list.
func spoilPlace(r *rand.Rand, v reflect.Value) {
	numbers := []int{0, 1, -1, 2, 3, 4, 5, 15, api.MaxInt, api.MaxInt + 1, 1<<63 - 1, -1 << 63}
	texts := []string{"", "a", "box", "item", "shelf", "byname", "id", "n", "é", "\n", long(41), long(101)}
	switch v.Kind() {
	case reflect.Int:
		v.SetInt(int64(numbers[r.Intn(len(numbers))]))
	case reflect.Uint8:
		v.SetUint(uint64(r.Intn(256)))
	case reflect.String:
		v.SetString(texts[r.Intn(len(texts))])
	case reflect.Bool:
		v.SetBool(!v.Bool())
	case reflect.Slice:
		switch n := r.Intn(3); {
		case n == 0:
			v.Set(reflect.Append(v.Slice3(0, v.Len(), v.Len()), reflect.Zero(v.Type().Elem())))
		case n == 1 && v.Len() > 0:
			v.Set(reflect.Append(v.Slice3(0, v.Len(), v.Len()), v.Index(r.Intn(v.Len()))))
		case v.Len() > 0:
			v.Set(v.Slice(0, v.Len()-1))
		}
	}
}

// Z1, Z3: no function panics for strange arguments, and with an error all other results are zero.
func TestStrangeArguments(t *testing.T) {
	errors := map[api.Errno]int{}
	edits := append(editsOfTables(), editsOfColumns()...)
	edits = append(edits, edited{change: api.Change{Kind: api.ChCast, Table: "item", Name: "name", Column: api.Column{Kind: api.Int}}}, edited{change: api.Change{Kind: api.ChLoose, Table: "item", Name: "name"}})
	for seed := range 3000 {
		r := rand.New(rand.NewSource(int64(seed)))
		g := usual(t)
		g.C = edits[r.Intn(len(edits))].change
		g = clone(g)
		parts := []any{&g.S, &g.D, &g.C, &g.L, &g.Key, &g.Row, &g.Values, &g.Log, &g.Table, &g.Index}
		for range r.Intn(6) {
			spoil(r, parts[r.Intn(len(parts))])
		}
		for _, o := range callAll(t, g) {
			errors[o.err()]++
			for _, x := range o.results[:len(o.results)-1] {
				if o.err() != api.OK && x != true && !same(x, reflect.Zero(reflect.TypeOf(x)).Interface()) {
					t.Error(seed, o.name, o.results)
				}
			}
		}
	}
	for err := api.OK; err <= api.ErrLost; err++ {
		never := err == api.ErrMany || err == api.ErrSyntax || err == api.ErrStale || err == api.ErrCycle
		if never != (errors[err] == 0) {
			t.Error("error", err, errors[err])
		}
	}
}

// Z1: arguments with many elements.
func TestLargeArguments(t *testing.T) {
	const many = 100000
	c := api.Change{Kind: api.ChOrder, Table: "box", Columns: make([]string, many)}
	for i := range c.Columns {
		c.Columns[i] = "id"
	}
	if err := store.CheckChange(depot(t), c); err != api.ErrTwice {
		t.Error(err)
	}
	created := api.Table{Name: "a", Columns: make([]api.Column, many), Key: make([]string, many), Foreigns: make([]api.Foreign, many), Indexes: make([]api.Index, many)}
	for want, c := range map[api.Errno]api.Change{
		api.ErrLarge: {Kind: api.ChCreate, New: created},
		api.ErrTwice: {Kind: api.ChCreate, New: api.Table{Name: "box", Columns: created.Columns}},
		api.ErrForm:  {Kind: api.ChDrop, Table: "item", New: created},
	} {
		if err := store.CheckChange(depot(t), c); err != want {
			t.Error(want, err)
		}
	}
	a := stocked(t).Begin()
	l := make([]api.RowChange, many)
	for i := range l {
		l[i] = insert("shelf", text("x"), integer(i), null, boolean(1))
	}
	if err := a.Batch(l); err != api.ErrLarge {
		t.Error(err)
	}
	for i := range l {
		l[i] = remove("item", integer(9))
	}
	if err := a.Batch(l); err != api.ErrTwice {
		t.Error(err)
	}
	if _, err := a.Find("item", "byname", make([]api.Value, many)); err != api.ErrForm {
		t.Error(err)
	}
}

// Z2, Z10: there is no state between calls, also with several goroutines.
func TestGoroutines(t *testing.T) {
	g := usual(t)
	want := callAll(t, g)
	var group sync.WaitGroup
	for range 8 {
		group.Go(func() {
			for range 10 {
				for i, o := range callAll(t, g) {
					if !sameResults(o.results, want[i].results) {
						t.Error(o.name)
					}
				}
			}
		})
	}
	group.Wait()
}
