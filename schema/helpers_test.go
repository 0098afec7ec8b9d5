package schema_test

import (
	"reflect"
	"slices"
	"strings"
	"testing"

	"dumbwaiter/api"
	"dumbwaiter/schema"
)

var null = api.Value{}

func boolean(n int) api.Value { return api.Value{Kind: api.Bool, N: n} }

func integer(n int) api.Value { return api.Value{Kind: api.Int, N: n} }

func text(s string) api.Value { return api.Value{Kind: api.Text, S: s} }

func moment(n int) api.Value { return api.Value{Kind: api.Moment, N: n} }

// long is a text with so many bytes.
func long(n int) string { return strings.Repeat("x", n) }

// lines joins lines to a text.
func lines(l ...string) string { return strings.Join(append(l, ""), "\n") }

// read reads a model.
func read(t testing.TB, l ...string) api.Model {
	t.Helper()
	m, err := schema.Read(lines(l...))
	if err != api.OK {
		t.Fatal(l, err)
	}
	return m
}

// readSchema reads a schema.
func readSchema(t testing.TB, l ...string) api.Schema {
	t.Helper()
	s, err := schema.SchemaRead(lines(l...))
	if err != api.OK {
		t.Fatal(l, err)
	}
	return s
}

// zooLines is a model with everything that models can have: a family with one table, one that is apart, entities alone, with tenants and without.
func zooLines() []string {
	return []string{
		"embed address", "field city text texts 'ulm' 'bonn' '' 'o''x  y'", "field zip int null default 7",
		"embed nothing",
		"entity person version soft",
		"field name text", "field state text default 'new' texts 'new' 'old'", "field home embed address", "field tall text = concat(:name,concat(' = ',:home.city))", "field void embed nothing",
		"one mate person clear", "many pets pet owner", "pairs tags tag people save",
		"unique name", "unique home.zip mate", "index home.city state", "index mate",
		"entity worker of person",
		"field pay int default 5", "field since moment null default @2026-11-17T09:05:00", "field sum int = add(:pay,:home.zip)",
		"one boss worker need refuse save", "many staff worker boss save",
		"unique pay", "unique boss since",
		"entity pet apart soft tenant",
		"field name text null default ' '",
		"one owner person cascade", "pairs friends pet friends",
		"entity dog of pet",
		"field good bool default true", "field nick text null",
		"one rival pet clear", "many hunts cat fears",
		"unique good nick",
		"entity cat of pet",
		"field lives int default -9",
		"one fears dog refuse", "pairs prey tag",
		"unique lives fears", "index fears",
		"entity tag",
		"field name text null",
		"pairs over tag under", "pairs people person tags", "pairs under tag over",
		"entity puppy of dog",
		"field weeks int null",
	}
}

// zoo is the model of zooLines.
func zoo(t testing.TB) api.Model {
	t.Helper()
	return read(t, zooLines()...)
}

// place returns the place of an entity of a model.
func place(m api.Model, entity string) int {
	return slices.IndexFunc(m.Entities, func(e api.Entity) bool { return e.Name == entity })
}

// same reports whether two values are deeply equal, where empty and nil slices are.
func same(a, b any) bool { return sameValue(reflect.ValueOf(a), reflect.ValueOf(b)) }

func sameValue(a, b reflect.Value) bool {
	if a.Type() != b.Type() {
		return false
	}
	switch a.Kind() {
	case reflect.Slice:
		ok := a.Len() == b.Len()
		for i := 0; ok && i < a.Len(); i++ {
			ok = sameValue(a.Index(i), b.Index(i))
		}
		return ok
	case reflect.Struct:
		ok := true
		for i := 0; ok && i < a.NumField(); i++ {
			ok = sameValue(a.Field(i), b.Field(i))
		}
		return ok
	}
	return a.Interface() == b.Interface()
}

// clone returns a deep copy, without spare capacity.
func clone[T any](x T) T { return cloneValue(reflect.ValueOf(x)).Interface().(T) }

func cloneValue(v reflect.Value) reflect.Value {
	c := reflect.New(v.Type()).Elem()
	switch v.Kind() {
	case reflect.Slice:
		if v.IsNil() {
			return c
		}
		c.Set(reflect.MakeSlice(v.Type(), v.Len(), v.Len()))
		for i := range v.Len() {
			c.Index(i).Set(cloneValue(v.Index(i)))
		}
	case reflect.Struct:
		for i := range v.NumField() {
			c.Field(i).Set(cloneValue(v.Field(i)))
		}
	default:
		c.Set(v)
	}
	return c
}

// scribble overwrites all memory behind the slices of a value, also the spare one.
func scribble(x any) { scribbleValue(reflect.ValueOf(x)) }

func scribbleValue(v reflect.Value) {
	switch v.Kind() {
	case reflect.Slice:
		whole := v.Slice(0, v.Cap())
		for i := range whole.Len() {
			scribbleValue(whole.Index(i))
			whole.Index(i).SetZero()
		}
	case reflect.Struct:
		for i := range v.NumField() {
			scribbleValue(v.Field(i))
		}
	}
}

// spaced returns a deep copy in which each slice, empty ones too, has spare memory with marks, and a function that reports whether it has been changed.
func spaced[T any](x T) (T, func() bool) {
	var checks []func() bool
	c := spacedValue(reflect.ValueOf(x), &checks).Interface().(T)
	before := clone(c)
	return c, func() bool {
		for _, check := range checks {
			if !check() {
				return true
			}
		}
		return !same(c, before)
	}
}

func spacedValue(v reflect.Value, checks *[]func() bool) reflect.Value {
	c := reflect.New(v.Type()).Elem()
	switch v.Kind() {
	case reflect.Slice:
		whole := reflect.MakeSlice(v.Type(), v.Len()+2, v.Len()+2)
		for i := range v.Len() {
			whole.Index(i).Set(spacedValue(v.Index(i), checks))
		}
		c.Set(whole.Slice(0, v.Len()))
		*checks = append(*checks, func() bool { return whole.Index(v.Len()).IsZero() && whole.Index(v.Len()+1).IsZero() })
	case reflect.Struct:
		for i := range v.NumField() {
			c.Field(i).Set(spacedValue(v.Field(i), checks))
		}
	default:
		c.Set(v)
	}
	return c
}

// fault is a change that makes an argument wrong, and the error that it has then. Faults with the same spot cannot be combined.
type fault[T any] struct {
	spot   string
	change func(x *T)
	want   api.Errno
}

// tryFaults tries each of some faults, which stand in the order in which their errors are asked, and each two of them: the earlier one must be told.
func tryFaults[T any](t *testing.T, base T, check func(x T) api.Errno, faults []fault[T]) {
	t.Helper()
	if err := check(base); err != api.OK {
		t.Fatal("base", err)
	}
	for i, a := range faults {
		x := clone(base)
		a.change(&x)
		if err := check(x); err != a.want {
			t.Error("fault", i, a.spot, "want", a.want, "got", err)
		}
		for k, b := range faults[i+1:] {
			if a.spot == b.spot {
				continue
			}
			x := clone(base)
			b.change(&x)
			a.change(&x)
			if err := check(x); err != a.want {
				t.Error("faults", i, a.spot, "and", i+1+k, b.spot, "want", a.want, "got", err)
			}
		}
	}
}

// eachChange changes each field and each length within a value, one after another, calls f, and undoes the change.
func eachChange(x any, f func(what string)) { eachChangeOf(reflect.ValueOf(x).Elem(), "", f) }

func eachChangeOf(v reflect.Value, what string, f func(what string)) {
	change := func(to reflect.Value) {
		before := reflect.New(v.Type()).Elem()
		before.Set(v)
		v.Set(to)
		f(what)
		v.Set(before)
	}
	switch v.Kind() {
	case reflect.Slice:
		change(reflect.Append(v.Slice3(0, v.Len(), v.Len()), reflect.Zero(v.Type().Elem())))
		if v.Len() > 0 {
			change(v.Slice(0, v.Len()-1))
		}
		for i := range v.Len() {
			eachChangeOf(v.Index(i), what+"[]", f)
		}
	case reflect.Struct:
		for i := range v.NumField() {
			eachChangeOf(v.Field(i), what+"."+v.Type().Field(i).Name, f)
		}
	case reflect.Int:
		change(reflect.ValueOf(int(v.Int() + 1)))
	case reflect.Bool:
		change(reflect.ValueOf(!v.Bool()))
	case reflect.String:
		change(reflect.ValueOf(v.String() + "x"))
	}
}
