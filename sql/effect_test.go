package sql_test

import (
	"testing"

	"dumbwaiter/api"
	"dumbwaiter/sql"
)

// done is a statement, and what it makes of the stock.
type done struct {
	st    api.Statement
	count int
	want  api.Errno
	data  func(d *api.Data) // the change of the stock
}

// insert, update and remove are statements.
func insert(name string, columns []string, l ...[]api.Expr) api.Statement {
	return api.Statement{Kind: api.StInsert, Table: name, Columns: columns, Rows: l}
}

func into(name string, columns []string, q api.Select) api.Statement {
	return api.Statement{Kind: api.StInsert, Table: name, Columns: columns, Select: selects(q)}
}

func update(name string, columns []string, sets []api.Expr, where ...api.Expr) api.Statement {
	return api.Statement{Kind: api.StUpdate, Table: name, Name: "x", Columns: columns, Sets: sets, Where: where}
}

func remove(name string, where ...api.Expr) api.Statement {
	return api.Statement{Kind: api.StDelete, Table: name, Name: "x", Where: where}
}

// is is whether the id of x is a number.
func is(n int) api.Expr { return op(api.OpEqual, col("x", "id"), num(n)) }

// P4.7: inserts, updates and deletes, of no rows, some and all.
func TestEffects(t *testing.T) {
	id, age := col("x", "id"), col("x", "age")
	cat, dog := lit(text("cat")), lit(text("dog"))
	for i, x := range []done{
		// The other columns get their defaults, also where these are null.
		{insert("pet", []string{"n", "id"}, exprs(num(3), num(9)), exprs(lit(null), num(0))), 2, api.OK, func(d *api.Data) {
			r := d.Tables[pets].Rows
			r = append(rows(row(integer(0), null, text("cat"), null)), r...)
			d.Tables[pets].Rows = append(r, row(integer(9), null, text("cat"), integer(3)))
		}},
		{insert("person", []string{"id", "name"}, exprs(num(4), cat)), 1, api.OK, func(d *api.Data) {
			d.Tables[persons].Rows = append(d.Tables[persons].Rows, row(integer(4), text("cat"), null, null, boolean(1)))
		}},
		{into("none", []string{"x", "id"}, with(people(op(api.OpNull, col("p", "age"))), func(q *api.Select) { q.Items = append(q.Items, item("b", col("p", "id"))) })), 3, api.OK, func(d *api.Data) {
			d.Tables[nones].Rows = rows(row(integer(1), boolean(0)), row(integer(2), boolean(1)), row(integer(3), boolean(0)))
		}},
		{into("none", []string{"id"}, with(people(num(1)), func(q *api.Select) { q.Where = exprs(lit(null)) })), 0, api.OK, func(*api.Data) {}},
		// All expressions see the rows as they were.
		{update("pet", []string{"n", "id"}, exprs(id, op(api.OpSub, num(5), id))), 4, api.OK, func(d *api.Data) {
			d.Tables[pets].Rows = rows(row(integer(1), null, text("owl"), integer(4)), row(integer(2), integer(2), text("cat"), integer(3)), row(integer(3), integer(1), text("dog"), integer(2)), row(integer(4), integer(1), text("cat"), integer(1)))
		}},
		{update("person", []string{"age"}, exprs(scalar(people0(op(api.OpAdd, age, scalar(with(people(agg(api.AggSum, col("p", "age"))), func(*api.Select) {})))))), is(1)), 1, api.OK, func(d *api.Data) { d.Tables[persons].Rows[0][2] = integer(90) }},
		{update("person", []string{"name"}, exprs(op(api.OpCoalesce, scalar(with(people(col("p", "name")), func(q *api.Select) {
			q.Where = exprs(op(api.OpEqual, col("p", "id"), op(api.OpAdd, id, num(1))))
		})), lit(text("ann"))))), 3, api.OK, func(d *api.Data) {
			for k, name := range []string{"bob", "eve", "ann"} {
				d.Tables[persons].Rows[k][1] = text(name)
			}
		}},
		{update("pet", []string{"n"}, exprs(num(1)), op(api.OpLess, col("x", "n"), num(0))), 0, api.OK, func(*api.Data) {}}, {update("pet", []string{"owner"}, exprs(lit(null)), lit(null)), 0, api.OK, func(*api.Data) {}},
		// A row that becomes as it is counts.
		{update("pet", []string{"kind"}, exprs(dog), is(2)), 1, api.OK, func(*api.Data) {}},
		{remove("pet"), 4, api.OK, func(d *api.Data) { d.Tables[pets].Rows = nil }}, {remove("pet", is(3)), 1, api.OK, func(d *api.Data) {
			d.Tables[pets].Rows = append(d.Tables[pets].Rows[:2], d.Tables[pets].Rows[3])
		}}, {remove("pet", lit(null)), 0, api.OK, func(*api.Data) {}}, {remove("none"), 0, api.OK, func(*api.Data) {}},
		// A key and a reference to it that change in one go.
		{update("link", []string{"left_id", "right_id"}, exprs(col("x", "right_id"), col("x", "left_id")), op(api.OpEqual, col("x", "right_id"), num(2))), 1, api.OK, func(d *api.Data) {
			d.Tables[links].Rows = rows(row(integer(1), integer(3), text("x")), row(integer(2), integer(1), null), row(integer(3), integer(1), text("")))
		}},
		{update("link", []string{"left_id", "right_id"}, exprs(col("x", "right_id"), col("x", "left_id")), op(api.OpOr, op(api.OpEqual, col("x", "right_id"), num(3)), op(api.OpEqual, col("x", "left_id"), num(3)))), 2, api.OK, func(d *api.Data) {
			d.Tables[links].Rows[1][2], d.Tables[links].Rows[2][2] = text(""), text("x")
		}},
		{insert("pet", []string{"n"}, exprs(num(1))), 0, api.ErrNull, nil}, {insert("pet", []string{"id", "kind"}, exprs(num(1), lit(null))), 0, api.ErrNull, nil}, {update("person", []string{"id"}, exprs(lit(null)), is(3)), 0, api.ErrNull, nil},
		{insert("pet", []string{"id"}, exprs(num(1))), 0, api.ErrKey, nil}, {insert("pet", []string{"id"}, exprs(num(9)), exprs(num(9))), 0, api.ErrKey, nil}, {insert("person", []string{"id", "name"}, exprs(num(9), lit(text("bob")))), 0, api.ErrKey, nil}, {update("pet", []string{"id"}, exprs(num(1)), is(2)), 0, api.ErrKey, nil}, {update("person", []string{"name"}, exprs(dog)), 0, api.ErrKey, nil},
		{insert("pet", []string{"id", "owner"}, exprs(num(9), num(9))), 0, api.ErrRef, nil}, {update("pet", []string{"owner"}, exprs(num(9)), is(1)), 0, api.ErrRef, nil}, {remove("person", is(3)), 0, api.ErrRef, nil}, {update("person", []string{"id"}, exprs(num(9)), is(2)), 0, api.ErrRef, nil},
		// The first one counts.
		{insert("pet", []string{"id", "owner", "kind"}, exprs(num(1), num(9), cat), exprs(num(9), num(9), lit(null))), 0, api.ErrNull, nil}, {insert("pet", []string{"id", "owner"}, exprs(num(9), num(9)), exprs(num(1), num(1))), 0, api.ErrKey, nil},
	} {
		d, count, err := sql.Effect(shop(t), stock(), x.st, nil)
		want := api.Data{}
		if x.want == api.OK {
			want = stock()
			x.data(&want)
		}
		if err != x.want || count != x.count || !same(d, want) {
			t.Error(i, err, count, d)
		}
	}
}

// P4.7: a table has at most MaxRows rows; an error of nulls comes ahead of that, one of keys behind it.
func TestEffectsOfManyRows(t *testing.T) {
	d := stock()
	for i := range 100 {
		d.Tables[nones].Rows = append(d.Tables[nones].Rows, row(integer(i), null))
	}
	pairs := func(limit int, id api.Expr) api.Statement {
		return into("none", []string{"id"}, api.Select{Items: items(item("a", id)), From: from(table("none", "a")), Joins: []api.Join{join(table("none", "b"), lit(boolean(1)))}, Limit: limit})
	}
	id := op(api.OpAdd, op(api.OpMul, num(100), op(api.OpAdd, col("a", "id"), num(1))), col("b", "id"))
	for i, x := range []struct {
		st   api.Statement
		want api.Errno
	}{
		{pairs(4900, id), api.OK}, {pairs(4901, id), api.ErrLarge}, {pairs(-1, num(1)), api.ErrLarge}, {pairs(4900, num(1)), api.ErrKey}, {pairs(-1, lit(null)), api.ErrNull},
	} {
		got, count, err := sql.Effect(shop(t), d, x.st, nil)
		if err != x.want || err == api.OK && (count != 4900 || len(got.Tables[nones].Rows) != api.MaxRows) {
			t.Error(i, err, count)
		}
		a := filled(t, d).Begin()
		if r, err := sql.Run(a, x.st, nil); err != x.want || err == api.OK && (r.Count != 4900 || r.Read != 200) {
			t.Error(i, err, r.Count, r.Read)
		}
	}
}
