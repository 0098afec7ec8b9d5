package migrate_test

import (
	"math/rand"
	"reflect"
	"sync"
	"testing"

	"dumbwaiter/api"
	"dumbwaiter/migrate"
	"dumbwaiter/store"
)

// given is arguments for all functions.
type given struct {
	A, B     api.Schema
	Hints    []api.Hint
	D        api.Data
	L        []api.Change
	M        api.Migration
	Chain    []api.Migration
	Done     []api.Applied
	From, To int
	Name     string
	Text     string
}

// usual is right arguments.
func usual(t testing.TB) given {
	l := list(t, "rename shelf board", "remove board note", "create dog", "column id int", "key id", "foreign up dog id", "index i id", "end", "add dog x int null", "order board place firm since name", "unindex box z", "unforeign item up", "index item i n name", "foreign item up item n", "unforeign item shelf", "drop board", "tight item spare true")
	s, d := depot(t), stock()
	d.Tables[1].Rows[2][6], d.Tables[1].Rows[3][6], d.Tables[1].Rows[0][6] = integer(7), null, null
	b, err := migrate.Apply(s, l)
	must(t, err)
	return given{A: s, B: b, Hints: []api.Hint{{Table: "item", To: "item"}, {Table: "item", Column: "n", To: "place"}}, D: d, L: l, M: all(), Chain: links(t), Done: applied(t, links(t)[:2]...), From: 3, To: 7, Name: "joined", Text: lines(allLines()...)}
}

// outcomes is the results of a call, by the name of the function.
type outcomes struct {
	name    string
	results []any
}

// err is the error of a call, if it has one.
func (o outcomes) err() api.Errno {
	err, _ := o.results[len(o.results)-1].(api.Errno)
	return err
}

// callAll calls all functions.
func callAll(t testing.TB, g given) []outcomes {
	var l []outcomes
	add := func(name string, results ...any) { l = append(l, outcomes{name, results}) }
	s, err := migrate.Apply(g.A, g.L)
	add("Apply", s, err)
	s, d, at, err := migrate.Run(g.A, g.D, g.L)
	add("Run", s, d, at, err)
	add("CheckHints", migrate.CheckHints(g.A, g.B, g.Hints))
	d, err = migrate.Moved(g.A, g.B, g.Hints, g.D)
	add("Moved", d, err)
	changes, err := migrate.Diff(g.A, g.B, g.Hints)
	add("Diff", changes, err)
	changes, err = migrate.Diff(g.B, g.A, nil)
	add("Diff", changes, err)
	changes, err = migrate.Back(g.A, g.L)
	add("Back", changes, err)
	losses, err := migrate.Lost(g.A, g.L)
	add("Lost", losses, err)
	risks, err := migrate.Risks(g.A, g.L)
	add("Risks", risks, err)
	locks, err := migrate.Locks(g.A, g.L)
	add("Locks", locks, err)
	changes, err = migrate.Squash(g.A, g.L)
	add("Squash", changes, err)
	text, err := migrate.Text(g.M)
	add("Text", text, err)
	m, err := migrate.Read(g.Text)
	add("Read", m, err)
	sum, err := migrate.Sum(g.M)
	add("Sum", sum, err)
	add("CheckChain", migrate.CheckChain(g.A, g.Chain))
	chain, err := migrate.Join(g.A, g.Chain, g.From, g.To, g.Name)
	add("Join", chain, err)
	numbers, err := migrate.Pending(g.Chain, g.Done)
	add("Pending", numbers, err)
	db := stocked(t)
	n, err := migrate.Deploy(db, g.Chain)
	add("Deploy", n, err)
	done, err := migrate.Status(db)
	add("Status", done, err)
	n, err = migrate.Revert(db, g.Chain, g.From)
	add("Revert", n, err)
	add("Store", db.Schema(), db.Data(), db.Log(), db.Commits())
	return l
}

// Z2: arguments are neither modified, nor is the memory behind them, nor retained.
func TestArgumentsStayAsTheyAre(t *testing.T) {
	g, changed := spaced(usual(t))
	for _, o := range callAll(t, g) {
		if o.err() != api.OK {
			t.Error(o)
		}
	}
	if changed() {
		t.Error("changed")
	}
	db := stocked(t)
	_, err := migrate.Deploy(db, g.Chain)
	must(t, err)
	want := clone(db.Schema())
	scribble(g)
	if !same(db.Schema(), want) {
		t.Error("arguments are retained")
	}
	checkStore(t, db, links(t), 4)
	again, err := store.Open(db.Log())
	must(t, err)
	checkStore(t, again, links(t), 4)
}

// Z2: results share no memory with arguments, with other results, or within themselves.
func TestResultsAreNew(t *testing.T) {
	g := usual(t)
	want, kept := callAll(t, g), callAll(t, g)
	for i, o := range callAll(t, g) {
		for _, x := range o.results {
			checkApart(t, o.name, x)
			scribble(x)
		}
		if !same(g, usual(t)) {
			t.Fatal("arguments share memory with", o.name)
		}
		for k, x := range kept[i].results {
			if !same(x, want[i].results[k]) {
				t.Error("results share memory", o.name)
			}
		}
	}
	for _, l := range [][]api.Change{nil, list(t, "drop item")} {
		s, d, _, err := migrate.Run(g.A, g.D, l)
		must(t, err)
		x, err := migrate.Apply(g.A, l)
		must(t, err)
		scribble(s)
		scribble(d)
		scribble(x)
		if !same(g, usual(t)) {
			t.Error("arguments share memory")
		}
	}
}

// checkApart checks that no two slices within a value share memory, spare memory too.
func checkApart(t *testing.T, name string, x any) {
	t.Helper()
	seen := map[uintptr]bool{}
	var visit func(v reflect.Value)
	visit = func(v reflect.Value) {
		switch v.Kind() {
		case reflect.Slice:
			size := v.Type().Elem().Size()
			for i := range v.Cap() {
				if at := v.Pointer() + uintptr(i)*size; seen[at] {
					t.Error("slices share memory", name)
				} else {
					seen[at] = true
				}
			}
			for i := range v.Len() {
				if k := v.Index(i).Kind(); k == reflect.Slice || k == reflect.Struct {
					visit(v.Index(i))
				}
			}
		case reflect.Struct:
			for i := range v.NumField() {
				visit(v.Field(i))
			}
		}
	}
	visit(reflect.ValueOf(x))
}

// Z4: empty and nil slices are equivalent.
func TestEmptyAndNil(t *testing.T) {
	g := usual(t)
	want := callAll(t, g)
	for i, o := range callAll(t, swapEmpty(g)) {
		if !sameResults(o.results, want[i].results) {
			t.Error(o.name, o.results, want[i].results)
		}
	}
}

// sameResults compares results one by one.
func sameResults(a, b []any) bool {
	ok := len(a) == len(b)
	for i := 0; ok && i < len(a); i++ {
		ok = same(a[i], b[i])
	}
	return ok
}

// swapEmpty returns a copy in which nil slices are empty ones, and the other way round.
func swapEmpty[T any](x T) T {
	c := clone(x)
	var visit func(v reflect.Value)
	visit = func(v reflect.Value) {
		switch {
		case v.Kind() == reflect.Struct:
			for i := range v.NumField() {
				visit(v.Field(i))
			}
		case v.Kind() == reflect.Slice && v.IsNil():
			v.Set(reflect.MakeSlice(v.Type(), 0, 0))
		case v.Kind() == reflect.Slice && v.Len() == 0:
			v.SetZero()
		case v.Kind() == reflect.Slice:
			for i := range v.Len() {
				visit(v.Index(i))
			}
		}
	}
	visit(reflect.ValueOf(&c).Elem())
	return c
}

// spoil makes a change without any rule.
func spoil(r *rand.Rand, x any) {
	var places []reflect.Value
	var visit func(v reflect.Value)
	visit = func(v reflect.Value) {
		switch v.Kind() {
		case reflect.Struct:
			for i := range v.NumField() {
				visit(v.Field(i))
			}
			return
		case reflect.Slice:
			for i := range v.Len() {
				visit(v.Index(i))
			}
		}
		places = append(places, v)
	}
	visit(reflect.ValueOf(x).Elem())
	spoilPlace(r, places[r.Intn(len(places))])
}

// spoilPlace changes a number, a text, a flag or a list.
func spoilPlace(r *rand.Rand, v reflect.Value) {
	numbers := []int{0, 1, -1, 2, 3, 4, 5, 15, api.MaxInt, api.MaxInt + 1, 1<<63 - 1, -1 << 63}
	texts := []string{"", "a", "box", "item", "shelf", "history_", "byname", "id", "n", "é", "\n", long(41), long(101)}
	switch v.Kind() {
	case reflect.Int:
		v.SetInt(int64(numbers[r.Intn(len(numbers))]))
	case reflect.Uint64:
		v.SetUint(uint64(r.Intn(256)))
	case reflect.String:
		v.SetString(texts[r.Intn(len(texts))])
	case reflect.Bool:
		v.SetBool(!v.Bool())
	case reflect.Slice:
		switch n := r.Intn(3); {
		case n == 0:
			v.Set(reflect.Append(v.Slice3(0, v.Len(), v.Len()), reflect.Zero(v.Type().Elem())))
		case n == 1 && v.Len() > 0:
			v.Set(reflect.Append(v.Slice3(0, v.Len(), v.Len()), v.Index(r.Intn(v.Len()))))
		case v.Len() > 0:
			v.Set(v.Slice(0, v.Len()-1))
		}
	}
}

// Z1, Z3: no function panics for strange arguments, and with an error all other results are zero, but for the numbers of Run, Deploy and Revert.
func TestStrangeArguments(t *testing.T) {
	errors := map[api.Errno]int{}
	base := usual(t)
	for seed := range 1500 {
		r := rand.New(rand.NewSource(int64(seed)))
		g := clone(base)
		parts := []any{&g.A, &g.B, &g.Hints, &g.D, &g.L, &g.M, &g.Chain, &g.Done, &g.From, &g.To, &g.Name, &g.Text}
		for range r.Intn(6) {
			spoil(r, parts[r.Intn(len(parts))])
		}
		for _, o := range callAll(t, g) {
			errors[o.err()]++
			for _, x := range o.results[:len(o.results)-1] {
				numbered := o.name == "Run" || o.name == "Deploy" || o.name == "Revert"
				if _, isNumber := x.(int); o.err() != api.OK && !(numbered && isNumber) && !same(x, reflect.Zero(reflect.TypeOf(x)).Interface()) {
					t.Error(seed, o.name, o.results)
				}
			}
		}
	}
	for _, err := range []api.Errno{api.OK, api.ErrArg, api.ErrForm, api.ErrKind, api.ErrName, api.ErrTwice, api.ErrOrder, api.ErrType, api.ErrNull, api.ErrKey, api.ErrRef, api.ErrNone, api.ErrSyntax, api.ErrSum, api.ErrState} {
		if errors[err] == 0 {
			t.Error("error", err, errors)
		}
	}
}

// Z1: arguments with many elements.
func TestLargeArguments(t *testing.T) {
	const many = 100000
	c := api.Change{Kind: api.ChOrder, Table: "box", Columns: make([]string, many)}
	for i := range c.Columns {
		c.Columns[i] = "id"
	}
	if _, err := migrate.Text(api.Migration{Number: 1, Name: "m", Down: []api.Change{c}}); err != api.ErrLarge {
		t.Error(err)
	}
	if _, err := migrate.Apply(depot(t), make([]api.Change, many)); err != api.ErrLarge {
		t.Error(err)
	}
	if err := migrate.CheckHints(depot(t), depot(t), make([]api.Hint, many)); err != api.ErrLarge {
		t.Error(err)
	}
	if err := migrate.CheckChain(depot(t), make([]api.Migration, many)); err != api.ErrLarge {
		t.Error(err)
	}
	if _, err := migrate.Pending(links(t), make([]api.Applied, many)); err != api.ErrNone {
		t.Error(err)
	}
	created := api.Change{Kind: api.ChCreate, New: api.Table{Name: "a", Columns: make([]api.Column, many), Key: make([]string, many), Foreigns: make([]api.Foreign, many), Indexes: make([]api.Index, many)}}
	if _, err := migrate.Text(api.Migration{Number: 1, Name: "m", Up: []api.Change{created}}); err != api.ErrName {
		t.Error(err)
	}
	d := stock()
	d.Tables[0].Rows = nil
	for i := range api.MaxRows {
		d.Tables[0].Rows = append(d.Tables[0].Rows, row(integer(i), null, text("a"+string(rune('a'+i%26))+long(i/26%90)), null, null))
	}
	l := list(t, "unindex box z", "cast box id text", "add box x int null")
	if _, _, _, err := migrate.Run(readSchema(t, "table box", "column id int", "column size int null", "column label text default 'new'", "column open bool null default true", "column seen moment null", "key id", "index z label"), api.Data{Tables: d.Tables[:1]}, l); err != api.OK {
		t.Error(err)
	}
}

// Z2, Z10: there is no state between calls, also with several goroutines.
func TestGoroutines(t *testing.T) {
	g := usual(t)
	want := callAll(t, g)
	var group sync.WaitGroup
	for range 8 {
		group.Go(func() {
			for range 10 {
				for i, o := range callAll(t, g) {
					if !sameResults(o.results, want[i].results) {
						t.Error(o.name)
					}
				}
			}
		})
	}
	group.Wait()
}
