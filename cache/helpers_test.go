package cache_test

import (
	"reflect"
	"slices"
	"strings"
	"testing"

	"dumbwaiter/api"
	"dumbwaiter/cache"
	"dumbwaiter/query"
	"dumbwaiter/schema"
	"dumbwaiter/sql"
	"dumbwaiter/store"
)

var null = api.Value{}

func integer(n int) api.Value { return api.Value{Kind: api.Int, N: n} }

func text(s string) api.Value { return api.Value{Kind: api.Text, S: s} }

func moment(n int) api.Value { return api.Value{Kind: api.Moment, N: n} }

// row is a list of values.
func row(l ...api.Value) []api.Value { return l }

// long is a text with so many bytes.
func long(n int) string { return strings.Repeat("x", n) }

// lines joins lines to a text.
func lines(l ...string) string { return strings.Join(append(l, ""), "\n") }

// model reads a model.
func model(t testing.TB, l ...string) api.Model {
	t.Helper()
	m, err := schema.Read(lines(l...))
	if err != api.OK {
		t.Fatal(l, err)
	}
	return m
}

// where reads the condition of a find.
func where(t testing.TB, s string) []api.Expr {
	t.Helper()
	e, err := query.ExprRead(s)
	if err != api.OK {
		t.Fatal(s, err)
	}
	return []api.Expr{e}
}

// all is the find of all objects of an entity.
func all(entity string) api.Find { return api.Find{Entity: entity, Limit: -1} }

// library is a model of books, which all tenants see, and of notes of tenants.
func library(t testing.TB) api.Model {
	t.Helper()
	return model(t,
		"entity book version soft", "field name text", "one next book clear", "many notes note book", "pairs near book near",
		"entity novel of book", "field pages int default 9",
		"entity note apart version tenant", "field body text null", "one book book clear", "one reply note clear", "many replies note reply", "pairs likes note", "pairs about book",
		"entity memo of note", "field due moment null",
	)
}

// book and note are objects of the library.
func book(id, version, next int, name string) api.Object {
	return api.Object{Entity: "book", ID: id, Version: version, Values: row(text(name)), Ones: []int{next}}
}

func note(tenant, id, of int, body string) api.Object {
	return api.Object{Entity: "note", Tenant: tenant, ID: id, Version: 1, Values: row(text(body)), Ones: []int{of, 0}}
}

// likes and about are pairs of the library.
func likes(tenant, left, right int) api.PairOf {
	return api.PairOf{Entity: "note", Relation: "likes", Tenant: tenant, Left: left, Right: right}
}

func about(tenant, left, right int) api.PairOf {
	return api.PairOf{Entity: "note", Relation: "about", Tenant: tenant, Left: left, Right: right}
}

// shelf is a world of the library: two books, and two notes of the tenant 1 and one of 2.
func shelf() api.World {
	return api.World{
		Objects: []api.Object{book(1, 1, 2, "a"), book(2, 1, 0, "b"), note(1, 1, 1, "x"), note(1, 2, 0, "y"), note(2, 1, 1, "z")},
		Pairs:   []api.PairOf{about(1, 1, 2), likes(1, 1, 2), likes(2, 1, 1)},
	}
}

// must stops a test if there is an error.
func must(t testing.TB, errors ...api.Errno) {
	t.Helper()
	if slices.ContainsFunc(errors, func(err api.Errno) bool { return err != api.OK }) {
		t.Fatal(errors)
	}
}

// want checks an error.
func want(t testing.TB, got, want api.Errno) {
	t.Helper()
	if got != want {
		t.Error("got", got, "want", want)
	}
}

// expect checks that two values are equal.
func expect(t testing.TB, got, want any) {
	t.Helper()
	if !same(got, want) {
		t.Error("got", got, "want", want)
	}
}

// tables are the tables of a model.
func tables(t testing.TB, m api.Model) api.Schema {
	t.Helper()
	s, err := schema.Tables(m)
	must(t, err)
	return s
}

// storeOf returns a store for a model with the rows of a world. It has had one commit.
func storeOf(t testing.TB, m api.Model, w api.World) *store.Store {
	t.Helper()
	return filled(t, tables(t, m), m, w)
}

// filled returns a store with a schema, and the rows of a world.
func filled(t testing.TB, s api.Schema, m api.Model, w api.World) *store.Store {
	t.Helper()
	db, err := store.New(s)
	must(t, err)
	d, err := schema.Rows(m, w)
	must(t, err)
	var l []api.RowChange
	for _, table := range d.Tables {
		for _, r := range table.Rows {
			l = append(l, api.RowChange{Kind: api.RowInsert, Table: table.Table, Row: r})
		}
	}
	x := db.Begin()
	must(t, x.Batch(l), x.Commit())
	return db
}

// worldOf returns the world that a store tells.
func worldOf(t testing.TB, m api.Model, db *store.Store) api.World {
	t.Helper()
	d := db.Data()
	d.Tables = slices.DeleteFunc(d.Tables, func(x api.TableRows) bool { return x.Table == "history_" })
	w, err := schema.World(m, d)
	must(t, err)
	return w
}

// newCache returns a cache.
func newCache(t testing.TB, size, heard int) *cache.Cache {
	t.Helper()
	c, err := cache.NewCache(size, heard)
	must(t, err)
	return c
}

// reader returns a reader with a cache for 100 entries that has heard of the commits so far.
func reader(t testing.TB, m api.Model, db *store.Store, tenant int) (*cache.Reader, *cache.Cache) {
	t.Helper()
	c := newCache(t, 100, db.Commits())
	r, err := cache.NewReader(m, db, c, tenant, 100)
	must(t, err)
	return r, c
}

// parse reads a statement in DialectPlain without parameters.
func parse(t testing.TB, m api.Model, s string) api.Statement {
	t.Helper()
	st, err := sql.Parse(tables(t, m), s, api.DialectPlain, nil)
	if err != api.OK {
		t.Fatal(s, err)
	}
	return st
}

// same reports whether two values are deeply equal, where empty and nil slices are.
func same(a, b any) bool { return sameValue(reflect.ValueOf(a), reflect.ValueOf(b)) }

func sameValue(a, b reflect.Value) bool {
	if a.Type() != b.Type() {
		return false
	}
	switch a.Kind() {
	case reflect.Slice:
		ok := a.Len() == b.Len()
		for i := 0; ok && i < a.Len(); i++ {
			ok = sameValue(a.Index(i), b.Index(i))
		}
		return ok
	case reflect.Struct:
		ok := true
		for i := 0; ok && i < a.NumField(); i++ {
			ok = sameValue(a.Field(i), b.Field(i))
		}
		return ok
	}
	return a.Interface() == b.Interface()
}

// clone returns a deep copy, without spare capacity.
func clone[T any](x T) T { return cloneValue(reflect.ValueOf(x)).Interface().(T) }

func cloneValue(v reflect.Value) reflect.Value {
	c := reflect.New(v.Type()).Elem()
	switch v.Kind() {
	case reflect.Slice:
		if v.IsNil() {
			return c
		}
		c.Set(reflect.MakeSlice(v.Type(), v.Len(), v.Len()))
		for i := range v.Len() {
			c.Index(i).Set(cloneValue(v.Index(i)))
		}
	case reflect.Struct:
		for i := range v.NumField() {
			c.Field(i).Set(cloneValue(v.Field(i)))
		}
	default:
		c.Set(v)
	}
	return c
}

// wipe overwrites all elements of lists within what a pointer leads to, also those behind their ends.
func wipe(p any) { wipeValue(reflect.ValueOf(p).Elem()) }

func wipeValue(v reflect.Value) {
	switch v.Kind() {
	case reflect.Slice:
		v = v.Slice(0, v.Cap())
		for i := range v.Len() {
			wipeValue(v.Index(i))
			v.Index(i).SetZero()
		}
	case reflect.Struct:
		for i := range v.NumField() {
			wipeValue(v.Field(i))
		}
	}
}

// fault is a change that makes an argument wrong, and the error that it has then. Faults with the same spot cannot be combined.
type fault[T any] struct {
	spot   string
	change func(x *T)
	want   api.Errno
}

// tryFaults tries each of some faults, which stand in the order in which their errors are asked, and each two of them: the earlier one must be told.
func tryFaults[T any](t *testing.T, base T, check func(x T) api.Errno, faults []fault[T]) {
	t.Helper()
	if err := check(clone(base)); err != api.OK {
		t.Fatal("base", err)
	}
	for i, a := range faults {
		x := clone(base)
		a.change(&x)
		if err := check(x); err != a.want {
			t.Error("fault", i, a.spot, "want", a.want, "got", err)
		}
		for k, b := range faults[i+1:] {
			if a.spot == b.spot {
				continue
			}
			x := clone(base)
			b.change(&x)
			a.change(&x)
			if err := check(x); err != a.want {
				t.Error("faults", i, a.spot, "and", i+1+k, b.spot, "want", a.want, "got", err)
			}
		}
	}
}
