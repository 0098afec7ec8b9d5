package sql_test

import (
	"reflect"
	"slices"
	"strings"
	"testing"

	"dumbwaiter/api"
	"dumbwaiter/schema"
	"dumbwaiter/sql"
	"dumbwaiter/store"
)

var null = api.Value{}

func boolean(n int) api.Value { return api.Value{Kind: api.Bool, N: n} }

func integer(n int) api.Value { return api.Value{Kind: api.Int, N: n} }

func text(s string) api.Value { return api.Value{Kind: api.Text, S: s} }

func moment(n int) api.Value { return api.Value{Kind: api.Moment, N: n} }

// row is a row, or other values.
func row(l ...api.Value) []api.Value { return l }

// rows are rows.
func rows(l ...[]api.Value) [][]api.Value { return l }

// long is a text with so many bytes.
func long(n int) string { return strings.Repeat("x", n) }

// lit is a value as an expression; num is a number.
func lit(v api.Value) api.Expr { return api.Expr{Kind: api.XValue, Value: v} }
func num(n int) api.Expr       { return lit(integer(n)) }

// par is a parameter, from 0 on.
func par(n int) api.Expr { return api.Expr{Kind: api.XParam, N: n} }

// col is a column.
func col(source, name string) api.Expr {
	return api.Expr{Kind: api.XColumn, Source: source, Name: name}
}

// op is an operation, opN one with a number.
func op(n int, args ...api.Expr) api.Expr { return api.Expr{Kind: api.XOp, Op: n, Args: args} }

func opN(number, n int, args ...api.Expr) api.Expr {
	return api.Expr{Kind: api.XOp, Op: number, N: n, Args: args}
}

func cases(args ...api.Expr) api.Expr { return api.Expr{Kind: api.XCase, Args: args} }

func in(args ...api.Expr) api.Expr { return api.Expr{Kind: api.XIn, Args: args} }

func inSub(e api.Expr, q api.Select) api.Expr {
	return api.Expr{Kind: api.XIn, Args: exprs(e), Sub: selects(q)}
}

func exists(q api.Select) api.Expr { return api.Expr{Kind: api.XExists, Sub: selects(q)} }

func scalar(q api.Select) api.Expr { return api.Expr{Kind: api.XScalar, Sub: selects(q)} }

func agg(n int, args ...api.Expr) api.Expr { return api.Expr{Kind: api.XAgg, Op: n, Args: args} }

func distinct(n int, args ...api.Expr) api.Expr {
	return api.Expr{Kind: api.XAgg, Op: n, Distinct: true, Args: args}
}

func win(n int, args, group []api.Expr, order ...api.Order) api.Expr {
	return api.Expr{Kind: api.XWindow, Op: n, Args: args, Group: group, Order: order}
}

func exprs(l ...api.Expr) []api.Expr { return l }

func selects(l ...api.Select) []api.Select { return l }

func by(e api.Expr) api.Order { return api.Order{Expr: e} }

func item(name string, e api.Expr) api.Item { return api.Item{Name: name, Expr: e} }

func items(l ...api.Item) []api.Item { return l }

func table(name, as string) api.Source { return api.Source{Name: as, Table: name} }

func sub(q api.Select, as string) api.Source { return api.Source{Name: as, Sub: selects(q)} }

func from(x api.Source) []api.Source { return []api.Source{x} }

func join(x api.Source, on api.Expr) api.Join { return api.Join{Source: x, On: on} }

func leftJoin(x api.Source, on api.Expr) api.Join { return api.Join{Left: true, Source: x, On: on} }

// query is a statement of a select.
func query(q api.Select, params ...int) api.Statement {
	return api.Statement{Kind: api.StSelect, Params: params, Select: selects(q)}
}

// ids is a select of the ids of a table with another name.
func ids(name, as string) api.Select {
	return api.Select{Items: items(item("id", col(as, "id"))), From: from(table(name, as)), Limit: -1}
}

// shop is a schema with keys of one and two columns, all kinds of values, indexes of several columns, and references.
func shop(t testing.TB) api.Schema {
	t.Helper()
	s, err := schema.SchemaRead(strings.Join([]string{
		"table link", "column left_id int", "column right_id int", "column note text null", "key left_id right_id", "foreign left person left_id", "foreign right person right_id",
		"table none", "column id int", "column x bool null", "key id",
		"table person", "column id int", "column name text", "column age int null", "column seen moment null", "column ok bool null default true", "key id", "index byage age name", "unique byname name", "index byseen seen age id",
		"table pet", "column id int", "column owner int null", "column kind text default 'cat'", "column n int null", "key id", "foreign owner person owner", "index bykind kind n id", "index bykind_n kind n", "index byowner owner", "",
	}, "\n"))
	if err != api.OK {
		t.Fatal(err)
	}
	return s
}

// The numbers of its tables.
const (
	links = iota
	nones
	persons
	pets
)

// stock is data of the shop.
func stock() api.Data {
	return api.Data{Tables: []api.TableRows{
		{Table: "link", Rows: rows(row(integer(1), integer(2), null), row(integer(1), integer(3), text("x")), row(integer(3), integer(1), text("")))},
		{Table: "none"},
		{Table: "person", Rows: rows(
			row(integer(1), text("ann"), integer(30), moment(86400), boolean(1)),
			row(integer(2), text("bob"), null, null, boolean(0)),
			row(integer(3), text("eve"), integer(30), moment(90000), null),
		)},
		{Table: "pet", Rows: rows(
			row(integer(1), integer(1), text("cat"), integer(5)),
			row(integer(2), integer(1), text("dog"), null),
			row(integer(3), integer(2), text("cat"), integer(7)),
			row(integer(4), null, text("owl"), integer(5)),
		)},
	}}
}

// answer is Answer over the stock.
func answer(t testing.TB, q api.Select, params ...api.Value) [][]api.Value {
	t.Helper()
	kinds := make([]int, len(params))
	for i, v := range params {
		kinds[i] = max(v.Kind, api.Bool)
	}
	l, err := sql.Answer(shop(t), stock(), query(q, kinds...), params)
	if err != api.OK {
		t.Error(err)
	}
	return l
}

// stocked is a store with the stock.
func stocked(t testing.TB) *store.Store { return filled(t, stock()) }

// filled is a store of the shop with data.
func filled(t testing.TB, d api.Data) *store.Store {
	t.Helper()
	s, err := store.New(shop(t))
	if err != api.OK {
		t.Fatal(err)
	}
	a := s.Begin()
	if err := a.Batch(inserts(d)); err != api.OK {
		t.Fatal(err)
	}
	if err := a.Commit(); err != api.OK {
		t.Fatal(err)
	}
	return s
}

// inserts are the inserts of all rows of data.
func inserts(d api.Data) []api.RowChange {
	var l []api.RowChange
	for _, t := range d.Tables {
		for _, r := range t.Rows {
			l = append(l, api.RowChange{Kind: api.RowInsert, Table: t.Table, Row: r})
		}
	}
	return l
}

// must stops a test if there is an error.
func must(t testing.TB, errors ...api.Errno) {
	t.Helper()
	if slices.ContainsFunc(errors, func(err api.Errno) bool { return err != api.OK }) {
		t.Fatal(errors)
	}
}

// same reports whether two values are deeply equal, where empty and nil slices are.
func same(a, b any) bool { return sameValue(reflect.ValueOf(a), reflect.ValueOf(b)) }

func sameValue(a, b reflect.Value) bool {
	if a.Type() != b.Type() {
		return false
	}
	switch a.Kind() {
	case reflect.Slice:
		ok := a.Len() == b.Len()
		for i := 0; ok && i < a.Len(); i++ {
			ok = sameValue(a.Index(i), b.Index(i))
		}
		return ok
	case reflect.Struct:
		ok := true
		for i := 0; ok && i < a.NumField(); i++ {
			ok = sameValue(a.Field(i), b.Field(i))
		}
		return ok
	}
	return a.Interface() == b.Interface()
}

// clone returns a deep copy, without spare capacity.
func clone[T any](x T) T { return cloneValue(reflect.ValueOf(x)).Interface().(T) }

func cloneValue(v reflect.Value) reflect.Value {
	c := reflect.New(v.Type()).Elem()
	switch v.Kind() {
	case reflect.Slice:
		if v.IsNil() {
			return c
		}
		c.Set(reflect.MakeSlice(v.Type(), v.Len(), v.Len()))
		for i := range v.Len() {
			c.Index(i).Set(cloneValue(v.Index(i)))
		}
	case reflect.Struct:
		for i := range v.NumField() {
			c.Field(i).Set(cloneValue(v.Field(i)))
		}
	default:
		c.Set(v)
	}
	return c
}

// fault is a change that makes an argument wrong, and the error that it has then. Faults with the same spot cannot be combined.
type fault[T any] struct {
	spot   string
	change func(x *T)
	want   api.Errno
}

// tryFaults tries each of some faults, which stand in the order in which their errors are asked, and each two of them: the earlier one must be told.
func tryFaults[T any](t *testing.T, base T, check func(x T) api.Errno, faults []fault[T]) {
	t.Helper()
	if err := check(base); err != api.OK {
		t.Fatal("base", err)
	}
	for i, a := range faults {
		x := clone(base)
		a.change(&x)
		if err := check(x); err != a.want {
			t.Error("fault", i, a.spot, "want", a.want, "got", err)
		}
		for k, b := range faults[i+1:] {
			if a.spot == b.spot {
				continue
			}
			x := clone(base)
			b.change(&x)
			a.change(&x)
			if err := check(x); err != a.want {
				t.Error("faults", i, a.spot, "and", i+1+k, b.spot, "want", a.want, "got", err)
			}
		}
	}
}
