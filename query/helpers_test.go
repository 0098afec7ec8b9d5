package query_test

import (
	"reflect"
	"slices"
	"strings"
	"testing"

	"dumbwaiter/api"
	"dumbwaiter/query"
	"dumbwaiter/schema"
)

var null = api.Value{}

func boolean(n int) api.Value { return api.Value{Kind: api.Bool, N: n} }

func integer(n int) api.Value { return api.Value{Kind: api.Int, N: n} }

func text(s string) api.Value { return api.Value{Kind: api.Text, S: s} }

func moment(n int) api.Value { return api.Value{Kind: api.Moment, N: n} }

// row is a row, or other values.
func row(l ...api.Value) []api.Value { return l }

// long is a text with so many bytes.
func long(n int) string { return strings.Repeat("x", n) }

// lines joins lines to a text.
func lines(l ...string) string { return strings.Join(append(l, ""), "\n") }

// model reads a model.
func model(t testing.TB, l ...string) api.Model {
	t.Helper()
	m, err := schema.Read(lines(l...))
	if err != api.OK {
		t.Fatal(l, err)
	}
	return m
}

// cond reads a condition.
func cond(t testing.TB, s string) api.Expr {
	t.Helper()
	e, err := query.ExprRead(s)
	if err != api.OK {
		t.Fatal(s, err)
	}
	return e
}

// conds reads a list of one condition.
func conds(t testing.TB, s string) []api.Expr {
	t.Helper()
	return []api.Expr{cond(t, s)}
}

// lit is a value as an expression; col is an XColumn; op is an operation.
func lit(v api.Value) api.Expr { return api.Expr{Kind: api.XValue, Value: v} }

func col(source, name string) api.Expr {
	return api.Expr{Kind: api.XColumn, Source: source, Name: name}
}

func op(n int, args ...api.Expr) api.Expr { return api.Expr{Kind: api.XOp, Op: n, Args: args} }

// multi is an XSome, XEvery or XMany.
func multi(kind int, name string, args ...api.Expr) api.Expr {
	return api.Expr{Kind: kind, Name: name, Args: args}
}

// nested is an expression within so many OpNots.
func nested(n int, e api.Expr) api.Expr {
	for range n {
		e = op(api.OpNot, e)
	}
	return e
}

// many are copies of an expression.
func many(n int, e api.Expr) []api.Expr { return slices.Repeat([]api.Expr{e}, n) }

// must stops a test if there is an error.
func must(t testing.TB, errors ...api.Errno) {
	t.Helper()
	if slices.ContainsFunc(errors, func(err api.Errno) bool { return err != api.OK }) {
		t.Fatal(errors)
	}
}

// same reports whether two values are deeply equal, where empty and nil slices are.
func same(a, b any) bool { return sameValue(reflect.ValueOf(a), reflect.ValueOf(b)) }

func sameValue(a, b reflect.Value) bool {
	if a.Type() != b.Type() {
		return false
	}
	switch a.Kind() {
	case reflect.Slice:
		ok := a.Len() == b.Len()
		for i := 0; ok && i < a.Len(); i++ {
			ok = sameValue(a.Index(i), b.Index(i))
		}
		return ok
	case reflect.Struct:
		ok := true
		for i := 0; ok && i < a.NumField(); i++ {
			ok = sameValue(a.Field(i), b.Field(i))
		}
		return ok
	}
	return a.Interface() == b.Interface()
}

// clone returns a deep copy, without spare capacity.
func clone[T any](x T) T { return cloneValue(reflect.ValueOf(x)).Interface().(T) }

func cloneValue(v reflect.Value) reflect.Value {
	c := reflect.New(v.Type()).Elem()
	switch v.Kind() {
	case reflect.Slice:
		if v.IsNil() {
			return c
		}
		c.Set(reflect.MakeSlice(v.Type(), v.Len(), v.Len()))
		for i := range v.Len() {
			c.Index(i).Set(cloneValue(v.Index(i)))
		}
	case reflect.Struct:
		for i := range v.NumField() {
			c.Field(i).Set(cloneValue(v.Field(i)))
		}
	default:
		c.Set(v)
	}
	return c
}

// fault is a change that makes an argument wrong, and the error that it has then. Faults with the same spot cannot be combined.
type fault[T any] struct {
	spot   string
	change func(x *T)
	want   api.Errno
}

// tryFaults tries each of some faults, which stand in the order in which their errors are asked, and each two of them: the earlier one must be told.
func tryFaults[T any](t *testing.T, base T, check func(x T) api.Errno, faults []fault[T]) {
	t.Helper()
	if err := check(base); err != api.OK {
		t.Fatal("base", err)
	}
	for i, a := range faults {
		x := clone(base)
		a.change(&x)
		if err := check(x); err != a.want {
			t.Error("fault", i, a.spot, "want", a.want, "got", err)
		}
		for k, b := range faults[i+1:] {
			if a.spot == b.spot {
				continue
			}
			x := clone(base)
			b.change(&x)
			a.change(&x)
			if err := check(x); err != a.want {
				t.Error("faults", i, a.spot, "and", i+1+k, b.spot, "want", a.want, "got", err)
			}
		}
	}
}
