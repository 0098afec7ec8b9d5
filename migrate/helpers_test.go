package migrate_test

import (
	"reflect"
	"slices"
	"strings"
	"testing"

	"dumbwaiter/api"
	"dumbwaiter/migrate"
	"dumbwaiter/schema"
	"dumbwaiter/store"
)

var null = api.Value{}

func boolean(n int) api.Value { return api.Value{Kind: api.Bool, N: n} }

func integer(n int) api.Value { return api.Value{Kind: api.Int, N: n} }

func text(s string) api.Value { return api.Value{Kind: api.Text, S: s} }

func moment(n int) api.Value { return api.Value{Kind: api.Moment, N: n} }

// row is a row, or other values.
func row(l ...api.Value) []api.Value { return l }

// long is a text with so many bytes.
func long(n int) string { return strings.Repeat("x", n) }

// lines joins lines to a text.
func lines(l ...string) string { return strings.Join(append(l, ""), "\n") }

// readSchema reads a schema.
func readSchema(t testing.TB, l ...string) api.Schema {
	t.Helper()
	s, err := schema.SchemaRead(lines(l...))
	if err != api.OK {
		t.Fatal(l, err)
	}
	return s
}

// same reports whether two values are deeply equal, where empty and nil slices are.
func same(a, b any) bool { return sameValue(reflect.ValueOf(a), reflect.ValueOf(b)) }

func sameValue(a, b reflect.Value) bool {
	if a.Type() != b.Type() {
		return false
	}
	switch a.Kind() {
	case reflect.Slice:
		ok := a.Len() == b.Len()
		for i := 0; ok && i < a.Len(); i++ {
			ok = sameValue(a.Index(i), b.Index(i))
		}
		return ok
	case reflect.Struct:
		ok := true
		for i := 0; ok && i < a.NumField(); i++ {
			ok = sameValue(a.Field(i), b.Field(i))
		}
		return ok
	}
	return a.Interface() == b.Interface()
}

// clone returns a deep copy, without spare capacity.
func clone[T any](x T) T { return cloneValue(reflect.ValueOf(x)).Interface().(T) }

func cloneValue(v reflect.Value) reflect.Value {
	c := reflect.New(v.Type()).Elem()
	switch v.Kind() {
	case reflect.Slice:
		if v.IsNil() {
			return c
		}
		c.Set(reflect.MakeSlice(v.Type(), v.Len(), v.Len()))
		for i := range v.Len() {
			c.Index(i).Set(cloneValue(v.Index(i)))
		}
	case reflect.Struct:
		for i := range v.NumField() {
			c.Field(i).Set(cloneValue(v.Field(i)))
		}
	default:
		c.Set(v)
	}
	return c
}

// scribble overwrites all memory behind the slices of a value, also the spare one.
func scribble(x any) { scribbleValue(reflect.ValueOf(x)) }

func scribbleValue(v reflect.Value) {
	switch v.Kind() {
	case reflect.Slice:
		whole := v.Slice(0, v.Cap())
		for i := range whole.Len() {
			scribbleValue(whole.Index(i))
			whole.Index(i).SetZero()
		}
	case reflect.Struct:
		for i := range v.NumField() {
			scribbleValue(v.Field(i))
		}
	}
}

// spaced returns a deep copy in which each slice, empty ones too, has spare memory with marks, and a function that reports whether it has been changed.
func spaced[T any](x T) (T, func() bool) {
	var checks []func() bool
	c := spacedValue(reflect.ValueOf(x), &checks).Interface().(T)
	before := clone(c)
	return c, func() bool {
		for _, check := range checks {
			if !check() {
				return true
			}
		}
		return !same(c, before)
	}
}

func spacedValue(v reflect.Value, checks *[]func() bool) reflect.Value {
	c := reflect.New(v.Type()).Elem()
	switch v.Kind() {
	case reflect.Slice:
		whole := reflect.MakeSlice(v.Type(), v.Len()+2, v.Len()+2)
		for i := range v.Len() {
			whole.Index(i).Set(spacedValue(v.Index(i), checks))
		}
		c.Set(whole.Slice(0, v.Len()))
		*checks = append(*checks, func() bool { return whole.Index(v.Len()).IsZero() && whole.Index(v.Len()+1).IsZero() })
	case reflect.Struct:
		for i := range v.NumField() {
			c.Field(i).Set(spacedValue(v.Field(i), checks))
		}
	default:
		c.Set(v)
	}
	return c
}

// fault is a change that makes an argument wrong, and the error that it has then. Faults with the same spot cannot be combined.
type fault[T any] struct {
	spot   string
	change func(x *T)
	want   api.Errno
}

// tryFaults tries each of some faults, which stand in the order in which their errors are asked, and each two of them: the earlier one must be told.
func tryFaults[T any](t *testing.T, base T, check func(x T) api.Errno, faults []fault[T]) {
	t.Helper()
	if err := check(base); err != api.OK {
		t.Fatal("base", err)
	}
	for i, a := range faults {
		x := clone(base)
		a.change(&x)
		if err := check(x); err != a.want {
			t.Error("fault", i, a.spot, "want", a.want, "got", err)
		}
		for k, b := range faults[i+1:] {
			if a.spot == b.spot {
				continue
			}
			x := clone(base)
			b.change(&x)
			a.change(&x)
			if err := check(x); err != a.want {
				t.Error("faults", i, a.spot, "and", i+1+k, b.spot, "want", a.want, "got", err)
			}
		}
	}
}

// list reads changes.
func list(t testing.TB, l ...string) []api.Change {
	t.Helper()
	m, err := migrate.Read(lines(slices.Concat([]string{"migration 1 m", "up"}, l, []string{"down"})...))
	if err != api.OK {
		t.Fatal(l, err)
	}
	return m.Up
}

// written writes changes.
func written(t testing.TB, l []api.Change) string {
	t.Helper()
	s, err := migrate.Text(api.Migration{Number: 1, Name: "m", Up: l})
	if err != api.OK {
		t.Fatal(l, err)
	}
	return strings.TrimSuffix(strings.TrimPrefix(s, "migration 1 m\nup\n"), "down\n")
}

// depot is a schema with keys of one and of two columns, with all kinds of values, with references to other tables and to itself.
func depot(t testing.TB) api.Schema {
	t.Helper()
	return readSchema(t,
		"table box", "column id int", "column size int null", "column label text default 'new'", "column open bool null default true", "column seen moment null", "key id", "unique byseen seen size", "index bysize size label", "unique z label",
		"table item", "column id int", "column box int null default 1", "column up int null", "column shelf text null", "column place int null", "column name text null", "column n int null", "column spare bool null", "key id",
		"foreign box box box", "foreign shelf shelf shelf place", "foreign up item up", "index byname name n id",
		"table shelf", "column name text", "column place int", "column note text null default 'none'", "column firm bool default true", "column since moment", "key name place",
	)
}

// stock are right data of it.
func stock() api.Data {
	return api.Data{Tables: []api.TableRows{
		{Table: "box", Rows: [][]api.Value{
			row(integer(1), integer(10), text("a"), boolean(1), moment(60)),
			row(integer(2), integer(10), text("b"), null, null),
			row(integer(3), null, text("c"), boolean(0), null),
			row(integer(4), null, text("7"), boolean(0), moment(60)),
		}},
		{Table: "item", Rows: [][]api.Value{
			row(integer(-5), integer(2), integer(7), text("left"), null, null, integer(0), null),
			row(integer(7), null, integer(7), text("left"), integer(2), text("pin"), null, null),
			row(integer(8), integer(2), integer(-5), text("left"), integer(2), text("nut"), integer(5), null),
			row(integer(9), integer(1), null, null, integer(9), text("nut"), integer(5), boolean(1)),
		}},
		{Table: "shelf", Rows: [][]api.Value{
			row(text("left"), integer(1), null, boolean(1), moment(0)),
			row(text("left"), integer(2), text("low"), boolean(0), moment(1)),
			row(text("right"), integer(1), text(""), boolean(1), moment(2)),
		}},
	}}
}

// rowsOf are the rows of a table of data.
func rowsOf(d api.Data, table string) [][]api.Value {
	for _, t := range d.Tables {
		if t.Table == table {
			return t.Rows
		}
	}
	return nil
}

// inserts are the inserts of all rows of data.
func inserts(d api.Data) []api.RowChange {
	var l []api.RowChange
	for _, t := range d.Tables {
		for _, r := range t.Rows {
			l = append(l, api.RowChange{Kind: api.RowInsert, Table: t.Table, Row: r})
		}
	}
	return l
}

// filled is a store with data, behind one commit.
func filled(t testing.TB, s api.Schema, d api.Data) *store.Store {
	t.Helper()
	x, err := store.New(s)
	must(t, err)
	a := x.Begin()
	must(t, a.Batch(inserts(d)), a.Commit())
	return x
}

// must stops a test if there is an error.
func must(t testing.TB, errors ...api.Errno) {
	t.Helper()
	if slices.ContainsFunc(errors, func(err api.Errno) bool { return err != api.OK }) {
		t.Fatal(errors)
	}
}
