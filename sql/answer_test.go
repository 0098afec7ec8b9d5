package sql_test

import (
	"strconv"
	"testing"

	"dumbwaiter/api"
	"dumbwaiter/sql"
)

// told is a select and its rows over the stock.
type told struct {
	q    api.Select
	want [][]api.Value
}

// tryRows tries selects.
func tryRows(t *testing.T, l []told) {
	t.Helper()
	for i, x := range l {
		if got := answer(t, x.q); !same(got, x.want) {
			t.Error(i, got, x.want)
		}
	}
}

// with is a select with a change.
func with(q api.Select, change func(q *api.Select)) api.Select {
	q = clone(q)
	change(&q)
	return q
}

// zoo is a select of pets with some items, named a, b and so on.
func zoo(l ...api.Expr) api.Select {
	q := api.Select{From: from(table("pet", "q")), Limit: -1}
	for i, e := range l {
		q.Items = append(q.Items, item(string(rune('a'+i)), e))
	}
	return q
}

// P4.4: aggregates.
func TestAggregates(t *testing.T) {
	n, kind, owner := col("q", "n"), col("q", "kind"), col("q", "owner")
	all := zoo(agg(api.AggRows), agg(api.AggCount, n), agg(api.AggSum, n), agg(api.AggLeast, n), agg(api.AggMost, n), distinct(api.AggCount, n), distinct(api.AggSum, n), agg(api.AggCount, lit(null)), agg(api.AggSum, lit(null)), agg(api.AggLeast, kind), agg(api.AggMost, kind), agg(api.AggMost, lit(null)))
	none := row(integer(0), integer(0), null, null, null, integer(0), null, integer(0), null, null, null, null)
	never := func(q *api.Select) { q.Where = exprs(lit(null)) }
	tryRows(t, []told{
		{all, rows(row(integer(4), integer(3), integer(17), integer(5), integer(7), integer(2), integer(12), integer(0), null, text("cat"), text("owl"), null))},
		{with(all, never), rows(none)},
		{with(all, func(q *api.Select) { never(q); q.Group = exprs(kind) }), nil},
		{with(zoo(owner, agg(api.AggRows), agg(api.AggSum, n)), func(q *api.Select) { q.Group = exprs(owner) }), rows(row(null, integer(1), integer(5)), row(integer(1), integer(2), integer(5)), row(integer(2), integer(1), integer(7)))},
		{with(zoo(agg(api.AggRows)), func(q *api.Select) { q.Group = exprs(owner, kind) }), rows(row(integer(1)), row(integer(1)), row(integer(1)), row(integer(1)))},
		// Having, also without Group, and where it is null.
		{with(zoo(owner), func(q *api.Select) {
			q.Group = exprs(owner)
			q.Having = exprs(op(api.OpLess, num(1), agg(api.AggRows)))
		}), rows(row(integer(1)))},
		{with(zoo(num(1)), func(q *api.Select) { q.Having = exprs(lit(boolean(1))) }), rows(row(integer(1)))}, {with(zoo(num(1)), func(q *api.Select) { q.Having = exprs(lit(null)) }), nil}, {with(zoo(num(1)), func(q *api.Select) { never(q); q.Having = exprs(lit(boolean(1))) }), rows(row(integer(1)))},
		// An XAgg in Order makes groups, too.
		{with(zoo(num(1)), func(q *api.Select) { q.Order = []api.Order{by(agg(api.AggRows))} }), rows(row(integer(1)))},
		// Parts that are equal to an element of Group, also within further selects.
		{with(zoo(op(api.OpNeg, op(api.OpAdd, n, num(1)))), func(q *api.Select) { q.Group = exprs(op(api.OpAdd, n, num(1))) }), rows(row(null), row(integer(-8)), row(integer(-6)))},
		{with(zoo(scalar(people0(op(api.OpAdd, owner, agg(api.AggRows))))), func(q *api.Select) { q.Group = exprs(owner) }), rows(row(null), row(integer(2)), row(integer(3)))},
		// One that is an OpAnd is not taken apart, where it is a condition.
		{with(zoo(exists(with(people0(num(1)), func(q *api.Select) {
			q.Where = exprs(op(api.OpAnd, op(api.OpAnd, op(api.OpLess, owner, num(2)), op(api.OpLess, n, num(6))), lit(boolean(1))))
		})), agg(api.AggRows)), func(q *api.Select) {
			q.Group = exprs(op(api.OpAnd, op(api.OpLess, owner, num(2)), op(api.OpLess, n, num(6))))
		}), rows(row(boolean(0), integer(1)), row(boolean(0), integer(2)), row(boolean(1), integer(1)))},
		// A value that is an element of Group, in a list.
		{with(zoo(in(num(5), num(5), num(6))), func(q *api.Select) { q.Group = exprs(num(5)) }), rows(row(boolean(1)))},
	})
}

// P4.4: a sum is right or null as a whole, whatever it was on the way.
func TestSums(t *testing.T) {
	d := stock()
	d.Tables[links].Rows, d.Tables[pets].Rows = nil, nil
	d.Tables[persons].Rows = nil
	for i := range 100 {
		d.Tables[persons].Rows = append(d.Tables[persons].Rows, row(integer(i), text("n"+string(rune('a'+i/26))+string(rune('a'+i%26))), integer(i), null, null))
	}
	d.Tables[nones].Rows = rows(row(integer(1), null), row(integer(2), null))
	greatest := num(api.MaxInt)
	pairs := func(e api.Expr) api.Select {
		q := people(agg(api.AggSum, e))
		q.Joins = []api.Join{join(table("person", "r"), lit(boolean(1))), join(table("none", "n"), lit(boolean(1)))}
		return q
	}
	id := col("p", "id")
	for i, x := range []struct {
		e    api.Expr
		want api.Value
	}{
		{greatest, null}, {op(api.OpNeg, greatest), null}, {cases(op(api.OpLess, id, num(50)), greatest, op(api.OpNeg, greatest)), integer(0)}, {cases(op(api.OpLess, id, num(50)), op(api.OpNeg, greatest), greatest), integer(0)}, {cases(op(api.OpLess, id, num(49)), greatest, op(api.OpEqual, id, num(49)), num(-7), op(api.OpEqual, id, num(50)), num(0), op(api.OpNeg, greatest)), integer(-1400)},
	} {
		if got, err := sql.Answer(shop(t), d, query(pairs(x.e)), nil); err != api.OK || !same(got, rows(row(x.want))) {
			t.Error(i, got, err)
		}
	}
	small := func(values ...int) api.Value {
		q := people(agg(api.AggSum, cases(op(api.OpEqual, id, num(0)), num(values[0]), op(api.OpEqual, id, num(1)), num(values[1]), op(api.OpEqual, id, num(2)), num(values[2]), lit(null))))
		got, _ := sql.Answer(shop(t), d, query(q), nil)
		return got[0][0]
	}
	const m = api.MaxInt
	for want, l := range map[api.Value][]int{integer(m): {m, m, -m}, integer(m - 1): {m, m - 1, -m}, null: {m, 1, 0}, integer(-m): {-m, -1, 1}, integer(-1): {-m, m, -1}} {
		if got := small(l...); got != want {
			t.Error(l, got)
		}
	}
	if small(-m, -1, 0) != null || small(m, m, m) != null || small(1, m-1, 0) != integer(m) {
		t.Error("at the bound")
	}
}

// P4.5: windows.
func TestWindowsOfPets(t *testing.T) {
	id, n, kind, owner := col("q", "id"), col("q", "n"), col("q", "kind"), col("q", "owner")
	tryRows(t, []told{
		// Without Order all rows agree in all keys; WinRow goes by all columns.
		{zoo(id, win(api.WinRow, nil, nil), win(api.WinRank, nil, nil), win(api.WinSum, exprs(n), nil), win(api.WinCount, exprs(n), nil)), rows(row(integer(1), integer(1), integer(1), integer(17), integer(3)), row(integer(2), integer(2), integer(1), integer(17), integer(3)), row(integer(3), integer(3), integer(1), integer(17), integer(3)), row(integer(4), integer(4), integer(1), integer(17), integer(3)))},
		// Nulls of Group are the same, nulls of Order come first.
		{zoo(id, win(api.WinRank, nil, exprs(owner), by(n)), win(api.WinSum, exprs(n), exprs(owner), by(n)), win(api.WinCount, exprs(n), exprs(owner), by(n))), rows(row(integer(1), integer(2), integer(5), integer(1)), row(integer(2), integer(1), null, integer(0)), row(integer(3), integer(1), integer(7), integer(1)), row(integer(4), integer(1), integer(5), integer(1)))},
		{zoo(id, win(api.WinRow, nil, nil, api.Order{Expr: n, Desc: true, Last: true}), win(api.WinRank, nil, nil, api.Order{Expr: n, Desc: true, Last: true}), win(api.WinSum, exprs(id), nil, api.Order{Expr: n, Desc: true, Last: true})), rows(row(integer(1), integer(2), integer(2), integer(8)), row(integer(2), integer(4), integer(4), integer(10)), row(integer(3), integer(1), integer(1), integer(3)), row(integer(4), integer(3), integer(2), integer(8)))},
		{zoo(id, win(api.WinRow, nil, exprs(kind), by(owner))), rows(row(integer(1), integer(1)), row(integer(2), integer(1)), row(integer(3), integer(2)), row(integer(4), integer(1)))},
		// They see the rows behind Where, and ahead of Limit; in Order, too.
		{with(zoo(id, win(api.WinRow, nil, nil)), func(q *api.Select) {
			q.Where = exprs(op(api.OpLess, num(2), id))
			q.Limit = 1
			q.Order = []api.Order{{Expr: win(api.WinRank, nil, nil, by(id)), Desc: true}}
		}), rows(row(integer(4), integer(2)))},
		// Rows that are the same have different numbers.
		{api.Select{Items: items(item("a", win(api.WinRow, nil, nil))), From: from(sub(with(zoo(num(1)), func(q *api.Select) {}), "s")), Limit: -1}, rows(row(integer(1)), row(integer(2)), row(integer(3)), row(integer(4)))},
		// WinRow goes by the columns of all sources, in their order.
		{with(zoo(id, col("p", "id"), win(api.WinRow, nil, nil)), func(q *api.Select) {
			q.Where = exprs(op(api.OpLess, id, num(3)))
			q.Joins = []api.Join{join(table("person", "p"), op(api.OpLess, col("p", "id"), num(3)))}
		}), rows(row(integer(1), integer(1), integer(1)), row(integer(1), integer(2), integer(2)), row(integer(2), integer(1), integer(3)), row(integer(2), integer(2), integer(4)))},
	})
}

// P4.6: sources, joins, conditions, orders, limits.
func TestSelects(t *testing.T) {
	id, n, owner, kind := col("q", "id"), col("q", "n"), col("q", "owner"), col("q", "kind")
	ofPet := op(api.OpEqual, col("q", "owner"), col("p", "id"))
	order := func(l ...api.Order) api.Select {
		return with(zoo(id), func(q *api.Select) { q.Order = l })
	}
	is := func(l ...int) [][]api.Value {
		var r [][]api.Value
		for _, x := range l {
			r = append(r, row(integer(x)))
		}
		return r
	}
	cut := func(limit, offset int) api.Select {
		return with(zoo(id), func(q *api.Select) { q.Limit, q.Offset = limit, offset })
	}
	tryRows(t, []told{
		{people0(num(1)), is(1)}, {with(people0(num(1)), func(q *api.Select) { q.Where = exprs(lit(boolean(0))) }), nil}, {zoo(id), is(1, 2, 3, 4)},
		// Where must be true.
		{with(zoo(id), func(q *api.Select) { q.Where = exprs(op(api.OpLess, n, num(6))) }), is(1, 4)}, {with(zoo(id), func(q *api.Select) { q.Where = exprs(lit(null)) }), nil},
		// Joins: all pairs, the rows without a partner, partners by several joins.
		{with(zoo(id, col("p", "name")), func(q *api.Select) { q.Joins = []api.Join{join(table("person", "p"), ofPet)} }), rows(row(integer(1), text("ann")), row(integer(2), text("ann")), row(integer(3), text("bob")))},
		{with(zoo(id, col("p", "name")), func(q *api.Select) { q.Joins = []api.Join{leftJoin(table("person", "p"), ofPet)} }), rows(row(integer(1), text("ann")), row(integer(2), text("ann")), row(integer(3), text("bob")), row(integer(4), null))},
		{with(zoo(id, col("p", "name")), func(q *api.Select) {
			q.Joins = []api.Join{leftJoin(table("person", "p"), op(api.OpAnd, ofPet, op(api.OpEqual, kind, lit(text("dog")))))}
		}), rows(row(integer(1), null), row(integer(2), text("ann")), row(integer(3), null), row(integer(4), null))},
		{with(zoo(id), func(q *api.Select) {
			q.Joins = []api.Join{leftJoin(table("person", "p"), ofPet)}
			q.Where = exprs(op(api.OpNull, col("p", "id")))
		}), is(4)},
		{with(zoo(id), func(q *api.Select) { q.Joins = []api.Join{leftJoin(table("person", "p"), lit(null))} }), is(1, 2, 3, 4)}, {with(zoo(id), func(q *api.Select) { q.Joins = []api.Join{join(table("person", "p"), lit(null))} }), nil}, {with(zoo(id), func(q *api.Select) { q.Joins = []api.Join{leftJoin(table("none", "p"), lit(boolean(1)))} }), is(1, 2, 3, 4)},
		{with(zoo(col("q", "id"), col("r", "id")), func(q *api.Select) {
			q.Joins = []api.Join{leftJoin(table("person", "p"), ofPet), join(table("pet", "r"), op(api.OpEqual, col("r", "owner"), col("p", "id"))), leftJoin(table("none", "n"), op(api.OpEqual, col("n", "id"), id))}
			q.Where = exprs(op(api.OpLess, col("q", "id"), col("r", "id")))
		}), rows(row(integer(1), integer(2)))},
		{api.Select{Items: items(item("b", col("s", "b")), item("a", col("s", "a"))), From: from(sub(with(zoo(id, kind), func(q *api.Select) { q.Limit = 1 }), "s")), Limit: -1}, rows(row(text("cat"), integer(1)))},
		// Orders: nulls, the other way round, ties by the values.
		{order(by(n)), is(2, 1, 4, 3)}, {order(api.Order{Expr: n, Last: true}), is(1, 4, 3, 2)}, {order(api.Order{Expr: n, Desc: true}), is(2, 3, 1, 4)}, {order(api.Order{Expr: n, Desc: true, Last: true}), is(3, 1, 4, 2)}, {order(by(kind), api.Order{Expr: id, Desc: true}), is(3, 1, 2, 4)}, {order(by(num(1))), is(1, 2, 3, 4)}, {order(by(owner), by(n)), is(4, 2, 1, 3)},
		{cut(2, 0), is(1, 2)}, {cut(0, 0), nil}, {cut(-1, 3), is(4)}, {cut(2, 3), is(4)}, {cut(1, 1), is(2)}, {cut(api.MaxInt, api.MaxInt), nil}, {cut(api.MaxInt, 2), is(3, 4)}, {cut(5, 4), nil},
		// Distinct, ahead of Limit.
		{with(zoo(n), func(q *api.Select) { q.Distinct = true }), rows(row(null), row(integer(5)), row(integer(7)))}, {with(zoo(n), func(q *api.Select) {
			q.Distinct = true
			q.Limit = 2
			q.Order = []api.Order{{Expr: op(api.OpNull, n)}, {Expr: n, Desc: true}}
		}), is(7, 5)}, {with(zoo(owner, n), func(q *api.Select) { q.Distinct = true; q.Order = []api.Order{{Expr: n, Last: true}} }), rows(row(null, integer(5)), row(integer(1), integer(5)), row(integer(2), integer(7)), row(integer(1), null))},
	})
}

// P4.1: selects within expressions.
func TestSubs(t *testing.T) {
	owner := func(where ...api.Expr) api.Select {
		q := zoo(col("q", "owner"))
		q.Where = where
		return q
	}
	truths := func(e api.Expr) [][]api.Value {
		l := answer(t, people(e), integer(7))
		return l
	}
	id, name := col("p", "id"), col("p", "name")
	own := op(api.OpEqual, col("q", "owner"), id)
	ann := op(api.OpEqual, name, lit(text("ann")))
	yes, no := boolean(1), boolean(0)
	for i, x := range []struct {
		e    api.Expr
		want []api.Value // of ann, bob and eve
	}{
		{inSub(id, owner()), row(yes, yes, null)}, {inSub(id, owner(op(api.OpNot, op(api.OpNull, col("q", "owner"))))), row(yes, yes, no)}, {inSub(lit(null), owner()), row(null, null, null)}, {inSub(lit(null), owner(lit(boolean(0)))), row(no, no, no)}, {inSub(id, owner(own)), row(yes, yes, no)}, {inSub(lit(null), owner(own)), row(null, null, no)}, {inSub(op(api.OpAdd, id, num(1)), owner(op(api.OpOr, own, op(api.OpNull, col("q", "owner"))))), row(null, null, null)},
		{exists(owner()), row(yes, yes, yes)}, {exists(owner(own)), row(yes, yes, no)}, {exists(owner(lit(boolean(0)))), row(no, no, no)}, {exists(owner(op(api.OpEqual, id, par(0)))), row(no, no, no)},
		{exists(with(owner(own), func(q *api.Select) { q.Offset = 1 })), row(yes, no, no)}, {exists(with(owner(own), func(q *api.Select) { q.Limit = 0 })), row(no, no, no)}, {exists(with(owner(own), func(q *api.Select) { q.Items[0].Expr = agg(api.AggRows) })), row(yes, yes, yes)}, {exists(with(owner(own), func(q *api.Select) {
			q.Having = exprs(op(api.OpLess, num(1), agg(api.AggRows)))
			q.Items[0].Expr = num(1)
		})), row(yes, no, no)},
		{scalar(owner(own)), row(null, integer(2), null)}, {scalar(with(owner(own), func(q *api.Select) { q.Items[0].Expr = agg(api.AggSum, col("q", "id")) })), row(integer(3), integer(3), null)}, {scalar(with(owner(own), func(q *api.Select) { q.Limit = 1; q.Items[0].Expr = col("q", "kind") })), row(text("cat"), text("cat"), null)}, {scalar(with(owner(own), func(q *api.Select) { q.Distinct = true })), row(integer(1), integer(2), null)}, {scalar(people0(id)), row(integer(1), integer(2), integer(3))}, {scalar(people0(par(0))), row(integer(7), integer(7), integer(7))},
		// Two selects further out, and through the select of a source.
		{exists(with(owner(), func(q *api.Select) {
			q.Where = exprs(exists(with(people0(num(1)), func(q *api.Select) { q.Where = exprs(op(api.OpAnd, own, ann)) })))
		})), row(yes, no, no)},
		{scalar(api.Select{Items: items(item("a", agg(api.AggRows))), From: from(sub(owner(own), "s")), Limit: -1}), row(integer(2), integer(1), integer(0))}, {exists(api.Select{Items: items(item("a", num(1))), From: from(sub(people0(id), "s")), Joins: []api.Join{join(table("pet", "q"), op(api.OpEqual, col("s", "a"), col("q", "owner")))}, Limit: -1}), row(yes, yes, no)},
	} {
		got := truths(x.e)
		var want [][]api.Value
		q := api.Select{Items: items(item("n", name), item("a", x.e)), From: from(table("person", "p")), Limit: -1}
		for k, v := range x.want {
			want = append(want, row(text([]string{"ann", "bob", "eve"}[k]), v))
		}
		if l := answer(t, q, integer(7)); !same(l, want) || len(got) != 3 {
			t.Error(i, l)
		}
	}
}

// P4.6: rows that belong together among many. (They are looked up; to try all pairs takes a hundred times as long.)
func TestManyRows(t *testing.T) {
	d := stock()
	d.Tables[links].Rows, d.Tables[persons].Rows, d.Tables[pets].Rows = nil, nil, nil
	const count = 5000
	for i := range count {
		d.Tables[persons].Rows = append(d.Tables[persons].Rows, row(integer(i), text("n"+strconv.Itoa(i)), integer(i%50), null, null))
		d.Tables[pets].Rows = append(d.Tables[pets].Rows, row(integer(i), integer(i*7%count), text("cat"), integer(count-1-i)))
	}
	equal := func(a, b, c, d string) api.Expr { return op(api.OpEqual, col(a, b), col(c, d)) }
	rows := zoo(agg(api.AggRows))
	lonely := exists(with(ids("person", "p"), func(q *api.Select) {
		q.Where = exprs(op(api.OpAnd, equal("q", "owner", "p", "id"), exists(with(ids("pet", "r"), func(q *api.Select) { q.Where = exprs(equal("r", "n", "p", "id")) }))))
	}))
	chain := []api.Join{join(table("person", "p"), equal("q", "owner", "p", "id")), leftJoin(table("pet", "r"), equal("r", "n", "p", "id")), join(sub(zoo(col("q", "id")), "s"), lit(boolean(1)))}
	for i, q := range []api.Select{
		with(rows, func(q *api.Select) { q.Joins = chain; q.Where = exprs(equal("s", "a", "r", "id")) }),
		with(rows, func(q *api.Select) {
			q.Where = exprs(op(api.OpAnd, lonely, inSub(col("q", "id"), with(ids("pet", "z"), func(q *api.Select) { q.Items[0].Expr = col("z", "n") }))))
		}),
		with(rows, func(q *api.Select) { q.Where = exprs(in(append(exprs(col("q", "n")), numbers(count)...)...)) }),
		with(rows, func(q *api.Select) {
			q.Joins = []api.Join{join(table("person", "p"), lit(boolean(1))), join(table("pet", "r"), lit(boolean(1)))}
			q.Where = exprs(and(op(api.OpEqual, op(api.OpAdd, col("p", "id"), num(0)), col("q", "n")), op(api.OpEqual, col("q", "id"), op(api.OpSub, num(count-1), col("r", "n")))))
		}),
	} {
		if got, err := sql.Answer(shop(t), d, query(q), nil); err != api.OK || !same(got, [][]api.Value{row(integer(count))}) {
			t.Error(i, got, err)
		}
	}
}

// numbers are so many numbers as expressions.
func numbers(n int) []api.Expr {
	var l []api.Expr
	for i := range n {
		l = append(l, num(i))
	}
	return l
}

// call is the arguments of Answer, Effect and Bind.
type call struct {
	S      api.Schema
	D      api.Data
	St     api.Statement
	Params []api.Value
}

// P4.6: a select within others is not executed again for the same rows around it. (It would take 4 to the power of 24 steps here.)
func TestNestedSelects(t *testing.T) {
	name := func(level int) string { return "n" + strconv.Itoa(level) }
	var nest func(level int, last api.Expr) api.Expr
	nest = func(level int, last api.Expr) api.Expr {
		if level == 25 {
			return last
		}
		q := ids("pet", name(level))
		q.Where = exprs(op(api.OpAnd, op(api.OpGreater, col(name(level), "id"), num(0)), nest(level+1, last)))
		return exists(q)
	}
	q := ids("pet", name(0))
	for _, c := range []struct {
		last api.Expr
		want [][]api.Value
	}{
		{op(api.OpEqual, col(name(24), "id"), num(9)), nil}, {op(api.OpLess, col(name(24), "id"), col(name(0), "id")), rows(row(integer(2)), row(integer(3)), row(integer(4)))}, {op(api.OpLess, col(name(24), "id"), col(name(23), "id")), rows(row(integer(1)), row(integer(2)), row(integer(3)), row(integer(4)))},
	} {
		q.Where = exprs(nest(1, c.last))
		if got := answer(t, q); !same(got, c.want) {
			t.Error(got)
		}
	}
}

// P4.6 to P4.8: the errors of Answer, Effect and Bind, in their order.
func TestErrorsOfCalls(t *testing.T) {
	q := people(op(api.OpAdd, par(0), par(1)))
	base := call{shop(t), stock(), query(q, api.Moment, api.Int), row(moment(1), integer(2))}
	change := base
	change.St = api.Statement{Kind: api.StUpdate, Params: base.St.Params, Table: "person", Name: "p", Columns: []string{"seen", "age"}, Sets: exprs(par(0), par(1))}
	answered := func(x call) api.Errno { _, err := sql.Answer(x.S, x.D, x.St, x.Params); return err }
	effected := func(x call) api.Errno { _, _, err := sql.Effect(x.S, x.D, x.St, x.Params); return err }
	bound := func(x call) api.Errno { _, err := sql.Bind(x.S, x.St, x.Params); return err }
	first := []fault[call]{
		{"schema", func(x *call) { x.S.Tables[0].Name = "zoo" }, api.ErrOrder},
		{"params of the statement", func(x *call) { x.St.Params = x.St.Params[:1] }, api.ErrArg},
	}
	kind := func(other api.Statement) fault[call] {
		return fault[call]{"statement", func(x *call) { params := x.St.Params; x.St = clone(other); x.St.Params = params }, api.ErrKind}
	}
	data := []fault[call]{
		{"data", func(x *call) { x.D.Tables = x.D.Tables[:3] }, api.ErrForm},
		{"data", func(x *call) { x.D.Tables[pets].Rows[0][1] = integer(9) }, api.ErrRef},
	}
	params := []fault[call]{
		{"params", func(x *call) { x.Params = x.Params[:1] }, api.ErrForm},
		{"params", func(x *call) { x.Params = append(x.Params, null) }, api.ErrForm},
		{"first", func(x *call) { x.Params[0] = integer(1) }, api.ErrType},
		{"first", func(x *call) { x.Params[0] = moment(-1) }, api.ErrArg},
		{"second", func(x *call) { x.Params[1] = api.Value{Kind: api.Int, S: "a"} }, api.ErrForm},
		{"second", func(x *call) { x.Params[1] = moment(1) }, api.ErrType},
	}
	list := func(l ...[]fault[call]) []fault[call] {
		var all []fault[call]
		for _, x := range l {
			all = append(all, x...)
		}
		return all
	}
	tryFaults(t, base, answered, list(first, []fault[call]{kind(change.St)}, data, params))
	tryFaults(t, change, effected, list(first, []fault[call]{kind(base.St)}, data, params))
	tryFaults(t, base, bound, list(first, params))
	tryFaults(t, change, bound, list(first, params))
}

// P4.8: Bind puts values in the place of parameters, wherever they stand.
func TestBind(t *testing.T) {
	everywhere := func(e func(n int) api.Expr) api.Select {
		return api.Select{
			Distinct: true,
			Items:    items(item("a", e(0)), item("b", win(api.WinSum, exprs(e(0)), exprs(e(1)), by(e(0)))), item("c", scalar(people0(e(1))))),
			From:     from(sub(people0(e(0)), "s")),
			Joins:    []api.Join{leftJoin(table("pet", "q"), op(api.OpLess, e(0), num(2)))},
			Where:    exprs(in(e(1), e(1), lit(null))),
			Order:    []api.Order{{Expr: e(0), Desc: true}},
			Limit:    3, Offset: 0,
		}
	}
	value := func(n int) api.Expr { return lit([]api.Value{null, text("x")}[n]) }
	got, err := sql.Bind(shop(t), query(everywhere(par), api.Int, api.Text), row(null, text("x")))
	if want := query(everywhere(value)); err != api.OK || !same(got, want) || sql.Check(shop(t), got) != api.OK {
		t.Error(got, err)
	}
	grouped := func(e func(n int) api.Expr) api.Select {
		return api.Select{Items: items(item("a", agg(api.AggMost, e(1)))), Group: exprs(e(0)), Having: exprs(op(api.OpNull, e(0))), Limit: -1}
	}
	got, err = sql.Bind(shop(t), query(grouped(par), api.Int, api.Text), row(null, text("x")))
	if err != api.OK || !same(got, query(grouped(value))) {
		t.Error(got, err)
	}
	insert := func(e func(n int) api.Expr) api.Statement {
		return api.Statement{Kind: api.StInsert, Table: "pet", Columns: []string{"n", "kind"}, Rows: [][]api.Expr{{e(0), e(1)}, {num(1), e(1)}}}
	}
	update := func(e func(n int) api.Expr) api.Statement {
		return api.Statement{Kind: api.StUpdate, Table: "pet", Name: "q", Columns: []string{"n", "kind"}, Sets: exprs(e(0), e(1)), Where: exprs(op(api.OpEqual, e(1), col("q", "kind")))}
	}
	for _, f := range []func(func(n int) api.Expr) api.Statement{insert, update} {
		st := f(par)
		st.Params = []int{api.Int, api.Text}
		if got, err := sql.Bind(shop(t), st, row(null, text("x"))); err != api.OK || !same(got, f(value)) {
			t.Error(got, err)
		}
	}
}

// P4.8: headings.
func TestHeadings(t *testing.T) {
	q := people(col("p", "seen"))
	q.Items = append(q.Items, item("b", lit(null)), item("c", scalar(zoo(col("q", "kind")))), item("d", op(api.OpAdd, lit(null), num(1))), item("e", exists(zoo(num(1)))))
	want := []api.Heading{{Name: "a", Kind: api.Moment}, {Name: "b"}, {Name: "c", Kind: api.Text}, {Name: "d"}, {Name: "e", Kind: api.Bool}}
	if got, err := sql.Headings(shop(t), query(q)); err != api.OK || !same(got, want) {
		t.Error(got, err)
	}
	if got, err := sql.Headings(shop(t), api.Statement{Kind: api.StDelete, Table: "pet", Name: "q"}); err != api.OK || len(got) > 0 {
		t.Error(got, err)
	}
}

// P4.8: tables, whatever the statement is; sources, in order.
func TestTablesAndSources(t *testing.T) {
	deep := func(name string) api.Expr { return exists(ids(name, "z")) }
	all := api.Statement{
		Kind: 77, Table: "t", Rows: [][]api.Expr{{num(1), deep("r")}}, Sets: exprs(deep("s")), Where: exprs(deep("w"), deep("w2")),
		Select: selects(api.Select{
			Items: items(item("", deep("i"))), From: []api.Source{table("f", ""), {Table: "f2", Sub: selects(ids("f3", "y"))}}, Joins: []api.Join{join(table("j", "j"), deep("o"))},
			Where: exprs(deep("a")), Group: exprs(deep("b")), Having: exprs(deep("c")), Order: []api.Order{by(deep("d"))},
		}, ids("t", "u")),
	}
	all.Where[0].Args = exprs(win(1, exprs(deep("e")), exprs(deep("g")), by(deep("h"))))
	got := sql.Tables(all)
	if want := []string{"a", "b", "c", "d", "e", "f", "f2", "f3", "g", "h", "i", "j", "o", "r", "s", "t", "w", "w2"}; !same(got, want) {
		t.Error(got)
	}
	if got := sql.Tables(api.Statement{}); len(got) > 0 {
		t.Error(got)
	}
	if got := sql.Tables(api.Statement{Kind: api.StInsert, Table: "pet"}); !same(got, []string{"pet"}) {
		t.Error(got)
	}
	var names []string
	sql.Sources(query(api.Select{From: from(table("a", "1")), Joins: []api.Join{join(sub(ids("b", "2"), "3"), deep("c")), join(table("a", "4"), num(1))}}), func(x api.Source) { names = append(names, x.Name) })
	if !same(names, []string{"1", "3", "2", "z", "4"}) {
		t.Error(names)
	}
}
