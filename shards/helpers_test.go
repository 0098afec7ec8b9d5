package shards_test

import (
	"reflect"
	"slices"
	"strings"
	"testing"

	"dumbwaiter/api"
	"dumbwaiter/cache"
	"dumbwaiter/query"
	"dumbwaiter/schema"
	"dumbwaiter/shards"
)

var null = api.Value{}

func integer(n int) api.Value { return api.Value{Kind: api.Int, N: n} }

func text(s string) api.Value { return api.Value{Kind: api.Text, S: s} }

func moment(n int) api.Value { return api.Value{Kind: api.Moment, N: n} }

// row is a list of values.
func row(l ...api.Value) []api.Value { return l }

// long is a text with so many bytes.
func long(n int) string { return strings.Repeat("x", n) }

// lines joins lines to a text.
func lines(l ...string) string { return strings.Join(append(l, ""), "\n") }

// model reads a model.
func model(t testing.TB, l ...string) api.Model {
	t.Helper()
	m, err := schema.Read(lines(l...))
	if err != api.OK {
		t.Fatal(l, err)
	}
	return m
}

// where reads the condition of a find.
func where(t testing.TB, s string) []api.Expr {
	t.Helper()
	e, err := query.ExprRead(s)
	if err != api.OK {
		t.Fatal(s, err)
	}
	return []api.Expr{e}
}

// all is the find of all objects of an entity.
func all(entity string) api.Find { return api.Find{Entity: entity, Limit: -1} }

// library is a model of books, which are the same on all shards, and of notes of tenants.
func library(t testing.TB) api.Model {
	t.Helper()
	return model(t,
		"entity book version soft", "field name text null", "one next book clear", "many notes note book", "pairs near book near",
		"entity novel of book", "field pages int default 9",
		"entity note apart version tenant", "field body text null", "one book book clear", "one reply note cascade", "many replies note reply", "pairs likes note", "pairs about book",
		"entity memo of note", "field due moment null",
	)
}

// must stops a test if there is an error.
func must(t testing.TB, errors ...api.Errno) {
	t.Helper()
	if slices.ContainsFunc(errors, func(err api.Errno) bool { return err != api.OK }) {
		t.Fatal(errors)
	}
}

// want checks an error.
func want(t testing.TB, got, want api.Errno) {
	t.Helper()
	if got != want {
		t.Error("got", got, "want", want)
	}
}

// expect checks that two values are equal.
func expect(t testing.TB, got, want any) {
	t.Helper()
	if !same(got, want) {
		t.Error("got", got, "want", want)
	}
}

// cluster returns a cluster of a model with the secret s and the tenants 1 and 2, on the shards 0 and 1.
func cluster(t testing.TB, m api.Model, count int) *shards.Cluster {
	t.Helper()
	c, err := shards.New(m, count, "s")
	must(t, err, c.Add(1, 0), c.Add(2, min(1, count-1)))
	return c
}

// key is a token of the secret s for some tenants, or for all.
func key(t testing.TB, tenants ...int) api.Token {
	t.Helper()
	k, err := cache.Issue("s", tenants, 1000)
	must(t, err)
	return k
}

// worldOf returns the world that a shard tells.
func worldOf(t testing.TB, m api.Model, c *shards.Cluster, shard int) api.World {
	t.Helper()
	d, err := c.Rows(shard)
	must(t, err)
	w, err := schema.World(m, d)
	must(t, err)
	return w
}

// part returns what a world has of a tenant (0: without a tenant).
func part(w api.World, tenant int) api.World {
	w.Objects = slices.DeleteFunc(slices.Clone(w.Objects), func(o api.Object) bool { return o.Tenant != tenant })
	w.Pairs = slices.DeleteFunc(slices.Clone(w.Pairs), func(p api.PairOf) bool { return p.Tenant != tenant })
	return w
}

// done checks that no outcome has an error.
func done(t testing.TB, outcomes []api.Outcome, err api.Errno) {
	t.Helper()
	must(t, err)
	for i, o := range outcomes {
		if o.Error != api.OK {
			t.Fatal(i, o.Error)
		}
	}
}

// notes are acts that make some notes.
func notes(count int) []api.Act {
	var l []api.Act
	for i := range count {
		l = append(l, api.Act{Kind: api.ActMake, Entity: "note"}, api.Act{Kind: api.ActSave, A: i + 1})
	}
	return append(l, api.Act{Kind: api.ActCommit})
}

// place returns the place of a tenant.
func place(c *shards.Cluster, tenant int) api.Place {
	for _, p := range c.Places() {
		if p.Tenant == tenant {
			return p
		}
	}
	return api.Place{}
}

// same reports whether two values are deeply equal, where empty and nil slices are.
func same(a, b any) bool { return sameValue(reflect.ValueOf(a), reflect.ValueOf(b)) }

func sameValue(a, b reflect.Value) bool {
	if a.Type() != b.Type() {
		return false
	}
	switch a.Kind() {
	case reflect.Slice:
		ok := a.Len() == b.Len()
		for i := 0; ok && i < a.Len(); i++ {
			ok = sameValue(a.Index(i), b.Index(i))
		}
		return ok
	case reflect.Struct:
		ok := true
		for i := 0; ok && i < a.NumField(); i++ {
			ok = sameValue(a.Field(i), b.Field(i))
		}
		return ok
	}
	return a.Interface() == b.Interface()
}

// clone returns a deep copy, without spare capacity.
func clone[T any](x T) T { return cloneValue(reflect.ValueOf(x)).Interface().(T) }

func cloneValue(v reflect.Value) reflect.Value {
	c := reflect.New(v.Type()).Elem()
	switch v.Kind() {
	case reflect.Slice:
		if v.IsNil() {
			return c
		}
		c.Set(reflect.MakeSlice(v.Type(), v.Len(), v.Len()))
		for i := range v.Len() {
			c.Index(i).Set(cloneValue(v.Index(i)))
		}
	case reflect.Struct:
		for i := range v.NumField() {
			c.Field(i).Set(cloneValue(v.Field(i)))
		}
	default:
		c.Set(v)
	}
	return c
}

// wipe overwrites all elements of lists within what a pointer leads to, also those behind their ends.
func wipe(p any) { wipeValue(reflect.ValueOf(p).Elem()) }

func wipeValue(v reflect.Value) {
	switch v.Kind() {
	case reflect.Slice:
		v = v.Slice(0, v.Cap())
		for i := range v.Len() {
			wipeValue(v.Index(i))
			v.Index(i).SetZero()
		}
	case reflect.Struct:
		for i := range v.NumField() {
			wipeValue(v.Field(i))
		}
	}
}

// fault is a change that makes an argument wrong, and the error that it has then. Faults with the same spot cannot be combined.
type fault[T any] struct {
	spot   string
	change func(x *T)
	want   api.Errno
}

// tryFaults tries each of some faults, which stand in the order in which their errors are asked, and each two of them: the earlier one must be told.
func tryFaults[T any](t *testing.T, base T, check func(x T) api.Errno, faults []fault[T]) {
	t.Helper()
	if err := check(clone(base)); err != api.OK {
		t.Fatal("base", err)
	}
	for i, a := range faults {
		x := clone(base)
		a.change(&x)
		if err := check(x); err != a.want {
			t.Error("fault", i, a.spot, "want", a.want, "got", err)
		}
		for k, b := range faults[i+1:] {
			if a.spot == b.spot {
				continue
			}
			x := clone(base)
			b.change(&x)
			a.change(&x)
			if err := check(x); err != a.want {
				t.Error("faults", i, a.spot, "and", i+1+k, b.spot, "want", a.want, "got", err)
			}
		}
	}
}
