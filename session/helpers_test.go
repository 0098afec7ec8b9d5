package session_test

import (
	"reflect"
	"slices"
	"strings"
	"testing"

	"dumbwaiter/api"
	"dumbwaiter/query"
	"dumbwaiter/schema"
	"dumbwaiter/session"
	"dumbwaiter/store"
	"dumbwaiter/value"
)

var null = api.Value{}

func boolean(n int) api.Value { return api.Value{Kind: api.Bool, N: n} }

func integer(n int) api.Value { return api.Value{Kind: api.Int, N: n} }

func text(s string) api.Value { return api.Value{Kind: api.Text, S: s} }

func moment(n int) api.Value { return api.Value{Kind: api.Moment, N: n} }

// row is a list of values.
func row(l ...api.Value) []api.Value { return l }

// lines joins lines to a text.
func lines(l ...string) string { return strings.Join(append(l, ""), "\n") }

// model reads a model.
func model(t testing.TB, l ...string) api.Model {
	t.Helper()
	m, err := schema.Read(lines(l...))
	if err != api.OK {
		t.Fatal(l, err)
	}
	return m
}

// exprs reads a list of one scalar expression.
func exprs(t testing.TB, s string) []api.Expr {
	t.Helper()
	e, err := value.ExprRead(s)
	if err != api.OK {
		t.Fatal(s, err)
	}
	return []api.Expr{e}
}

// where reads the condition of a find.
func where(t testing.TB, s string) []api.Expr {
	t.Helper()
	e, err := query.ExprRead(s)
	if err != api.OK {
		t.Fatal(s, err)
	}
	return []api.Expr{e}
}

// all is the find of all objects of an entity.
func all(entity string) api.Find { return api.Find{Entity: entity, Limit: -1} }

// must stops a test if there is an error.
func must(t testing.TB, errors ...api.Errno) {
	t.Helper()
	if slices.ContainsFunc(errors, func(err api.Errno) bool { return err != api.OK }) {
		t.Fatal(errors)
	}
}

// want checks an error.
func want(t testing.TB, got, want api.Errno) {
	t.Helper()
	if got != want {
		t.Error("got", got, "want", want)
	}
}

// storeOf returns a store for a model with the rows of a world.
func storeOf(t testing.TB, m api.Model, w api.World) *store.Store {
	t.Helper()
	s, err := schema.Tables(m)
	must(t, err)
	db, err := store.New(s)
	must(t, err)
	d, err := schema.Rows(m, w)
	must(t, err)
	var l []api.RowChange
	for _, table := range d.Tables {
		for _, r := range table.Rows {
			l = append(l, api.RowChange{Kind: api.RowInsert, Table: table.Table, Row: r})
		}
	}
	if len(l) > 0 {
		x := db.Begin()
		must(t, x.Batch(l), x.Commit())
	}
	return db
}

// worldOf returns the world that a store tells.
func worldOf(t testing.TB, m api.Model, db *store.Store) api.World {
	t.Helper()
	d := db.Data()
	d.Tables = slices.DeleteFunc(d.Tables, func(x api.TableRows) bool { return x.Table == "history_" })
	w, err := schema.World(m, d)
	must(t, err)
	return w
}

// user is a session whose calls stop the test if they have an error.
type user struct {
	testing.TB
	*session.Session
	db *store.Store
}

// use returns a session without hooks for all tenants, whose moment is 100.
func use(t testing.TB, m api.Model, db *store.Store, way int) user {
	t.Helper()
	return useFor(t, m, db, 0, way)
}

// useFor returns a session without hooks for a tenant.
func useFor(t testing.TB, m api.Model, db *store.Store, tenant, way int) user {
	t.Helper()
	s, err := session.New(m, db, tenant, 100, way, nil)
	must(t, err)
	return user{t, s, db}
}

// fresh returns a session without hooks on a new store.
func fresh(t testing.TB, m api.Model) (*store.Store, user) {
	t.Helper()
	db := storeOf(t, m, api.World{})
	return db, use(t, m, db, api.LoadLazy)
}

// made makes objects of an entity.
func (u user) made(entity string, count int) []int {
	u.Helper()
	var l []int
	for range count {
		h, err := u.Make(entity, 0)
		must(u, err)
		l = append(l, h)
	}
	return l
}

// get returns the object of an entity with an id.
func (u user) get(entity string, id int) int {
	u.Helper()
	h, err := u.Get(entity, id)
	must(u, err)
	return h
}

// find returns the objects of a find.
func (u user) find(f api.Find, params ...api.Value) []int {
	u.Helper()
	l, err := u.Find(f, params)
	must(u, err)
	return l
}

// value returns the value of a path.
func (u user) value(h int, path string) api.Value {
	u.Helper()
	v, err := u.Value(h, path)
	must(u, err)
	return v
}

// one returns the object to which a RelOne refers.
func (u user) one(h int, relation string) int {
	u.Helper()
	to, err := u.One(h, relation)
	must(u, err)
	return to
}

// all returns the objects of a RelMany or RelPairs.
func (u user) all(h int, relation string) []int {
	u.Helper()
	l, err := u.All(h, relation)
	must(u, err)
	return l
}

// object returns the current object of a handle.
func (u user) object(h int) api.Object {
	u.Helper()
	o, err := u.Object(h)
	must(u, err)
	return o
}

// states checks the states of handles, the first ones.
func (u user) states(l ...int) {
	u.Helper()
	for i, state := range l {
		if got := u.State(i + 1); got != state {
			u.Error("state of", i+1, "is", got, "and not", state)
		}
	}
}

// statements checks how many queries were executed.
func (u user) statements(want int) {
	u.Helper()
	if got := u.Statements(); got != want {
		u.Error("statements", got, "want", want)
	}
}

// expect checks that two values are equal.
func expect(t testing.TB, got, want any) {
	t.Helper()
	if !same(got, want) {
		t.Error("got", got, "want", want)
	}
}

// same reports whether two values are deeply equal, where empty and nil slices are.
func same(a, b any) bool { return sameValue(reflect.ValueOf(a), reflect.ValueOf(b)) }

func sameValue(a, b reflect.Value) bool {
	if a.Type() != b.Type() {
		return false
	}
	switch a.Kind() {
	case reflect.Slice:
		ok := a.Len() == b.Len()
		for i := 0; ok && i < a.Len(); i++ {
			ok = sameValue(a.Index(i), b.Index(i))
		}
		return ok
	case reflect.Struct:
		ok := true
		for i := 0; ok && i < a.NumField(); i++ {
			ok = sameValue(a.Field(i), b.Field(i))
		}
		return ok
	}
	return a.Interface() == b.Interface()
}

// clone returns a deep copy.
func clone[T any](x T) T { return cloneValue(reflect.ValueOf(x)).Interface().(T) }

func cloneValue(v reflect.Value) reflect.Value {
	c := reflect.New(v.Type()).Elem()
	switch v.Kind() {
	case reflect.Slice:
		if v.IsNil() {
			return c
		}
		c.Set(reflect.MakeSlice(v.Type(), v.Len(), v.Len()))
		for i := range v.Len() {
			c.Index(i).Set(cloneValue(v.Index(i)))
		}
	case reflect.Struct:
		for i := range v.NumField() {
			c.Field(i).Set(cloneValue(v.Field(i)))
		}
	default:
		c.Set(v)
	}
	return c
}
