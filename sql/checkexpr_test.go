package sql_test

import (
	"testing"

	"dumbwaiter/api"
	"dumbwaiter/sql"
)

// held is an expression, and the error that a select has with it.
type held struct {
	e    api.Expr
	want api.Errno
}

// people is a select of persons with one item.
func people(e api.Expr) api.Select {
	return api.Select{Items: items(item("a", e)), From: from(table("person", "p")), Limit: -1}
}

// changed is an expression with a change.
func changed(e api.Expr, change func(e *api.Expr)) api.Expr {
	e = clone(e)
	change(&e)
	return e
}

// tryItems tries expressions as items of a select of persons.
func tryItems(t *testing.T, l []held) {
	t.Helper()
	for i, x := range l {
		if err := sql.Check(shop(t), query(people(x.e), api.Int, api.Text)); err != x.want {
			t.Error(i, err, x.want)
		}
	}
}

// P4.1, P4.3: the errors of the kinds of P1.13 in statements.
func TestCheckScalars(t *testing.T) {
	age, name := col("p", "age"), col("p", "name")
	tryItems(t, []held{
		{num(1), api.OK}, {lit(null), api.OK}, {par(0), api.OK}, {age, api.OK}, {op(api.OpAdd, age, par(0)), api.OK}, {cases(lit(null), age, num(1)), api.OK}, {in(age, num(1), par(0)), api.OK},
		{api.Expr{}, api.ErrKind}, {api.Expr{Kind: 11}, api.ErrKind}, {api.Expr{Kind: api.XSome, Name: "a"}, api.ErrKind}, {op(0, age), api.ErrKind}, {op(28, age), api.ErrKind},
		// Sub of the kinds that do not use it.
		{changed(age, func(e *api.Expr) { e.Sub = selects(ids("none", "n")) }), api.ErrKind}, {changed(op(api.OpNot, age), func(e *api.Expr) { e.Sub = selects(ids("none", "n")) }), api.ErrKind},
		{changed(age, func(e *api.Expr) { e.Sub = selects(ids("house", "n")) }), api.ErrName},
		{lit(api.Value{Kind: 5}), api.ErrForm}, {lit(api.Value{Kind: api.Int, S: "a"}), api.ErrForm}, {lit(api.Value{N: 1}), api.ErrForm}, {num(api.MaxInt + 1), api.ErrArg}, {lit(text(long(101))), api.ErrLarge},
		{op(api.OpNot), api.ErrForm}, {op(api.OpAnd, lit(null)), api.ErrForm}, {cases(lit(null), age), api.ErrForm}, {in(age), api.ErrForm}, {changed(age, func(e *api.Expr) { e.Distinct = true }), api.ErrForm},
		{changed(op(api.OpNeg, age), func(e *api.Expr) { e.Group = exprs(age) }), api.ErrForm}, {changed(op(api.OpNeg, age), func(e *api.Expr) { e.Order = []api.Order{by(name)} }), api.ErrForm}, {changed(num(1), func(e *api.Expr) { e.Name = "a" }), api.ErrForm},
		{par(2), api.ErrArg}, {par(-1), api.ErrArg}, {opN(api.OpUnit, 7, col("p", "seen")), api.ErrArg}, {opN(api.OpCast, 0, age), api.ErrArg},
		{col("p", "size"), api.ErrName}, {col("person", "age"), api.ErrName}, {col("", "age"), api.ErrName}, {col("p", ""), api.ErrName},
		{op(api.OpNeg, name), api.ErrType}, {op(api.OpEqual, age, name), api.ErrType}, {op(api.OpAdd, age, col("p", "seen")), api.ErrType}, {in(age, num(1), par(1)), api.ErrType}, {cases(age, age, age), api.ErrType}, {cases(lit(null), age, name), api.ErrType}, {op(api.OpCoalesce, age, name), api.ErrType}, {opN(api.OpCast, api.Bool, col("p", "seen")), api.ErrType},
		// Those of the parts come first: of Args, Group, Order, Sub.
		{op(99, num(api.MaxInt+1)), api.ErrArg}, {op(api.OpEqual, col("p", "x"), op(99)), api.ErrName},
		{api.Expr{Kind: 99, Args: exprs(num(1)), Group: exprs(par(9)), Order: []api.Order{by(col("p", "x"))}}, api.ErrArg}, {api.Expr{Kind: 99, Order: []api.Order{by(col("p", "x"))}, Sub: selects(api.Select{})}, api.ErrName}, {api.Expr{Kind: 99, Sub: selects(api.Select{})}, api.ErrForm},
		{api.Expr{Kind: 99, Args: exprs(par(9)), Group: exprs(col("p", "x"))}, api.ErrArg},
	})
}

// P4.3: parts with more Args than an expression of chapter 1 has.
func TestCheckManyArgs(t *testing.T) {
	age, name := col("p", "age"), col("p", "name")
	numbers := many(5000, num(7))
	tryItems(t, []held{
		{in(append(exprs(age), numbers...)...), api.OK}, {in(append(append(exprs(age), numbers...), name)...), api.ErrType}, {in(append(exprs(name), numbers...)...), api.ErrType}, {in(append(exprs(lit(null)), many(500, lit(null))...)...), api.OK},
		{op(api.OpCoalesce, numbers...), api.OK}, {op(api.OpLower, op(api.OpCoalesce, append(many(1000, lit(null)), name)...)), api.OK}, {op(api.OpLower, op(api.OpCoalesce, numbers...)), api.ErrType}, {op(api.OpCoalesce, append(many(1001, name), num(1))...), api.ErrType},
		{cases(append(many(4000, lit(boolean(1))), name)...), api.ErrType}, {cases(append(many(4000, lit(boolean(1))), lit(null))...), api.OK}, {cases(append(append(many(4000, lit(boolean(1))), name), lit(null), boolValue())...), api.ErrType}, {cases(many(4000, lit(boolean(1)))...), api.ErrForm},
		{op(api.OpAnd, many(5000, lit(boolean(1)))...), api.ErrForm}, {op(api.OpNot, many(5000, lit(boolean(1)))...), api.ErrForm}, {op(api.OpPart, many(401, num(1))...), api.ErrForm}, {changed(age, func(e *api.Expr) { e.Args = numbers }), api.ErrForm}, {changed(par(0), func(e *api.Expr) { e.Args = numbers }), api.ErrForm},
		{agg(api.AggCount, numbers...), api.ErrForm},
	})
}

func boolValue() api.Expr { return lit(boolean(0)) }

// P4.1, P4.3: the errors of the further kinds.
func TestCheckFurtherKinds(t *testing.T) {
	age, name := col("p", "age"), col("p", "name")
	two := api.Select{Items: items(item("a", num(1)), item("b", num(2))), Limit: -1}
	one := ids("pet", "q")
	tryItems(t, []held{
		{inSub(age, one), api.OK}, {inSub(name, one), api.ErrType}, {inSub(lit(null), one), api.OK}, {inSub(name, people0(lit(null))), api.OK}, {inSub(age, two), api.ErrForm}, {api.Expr{Kind: api.XIn, Args: exprs(age), Sub: selects(one, one)}, api.ErrForm}, {api.Expr{Kind: api.XIn, Args: exprs(age, num(1)), Sub: selects(one)}, api.ErrForm}, {api.Expr{Kind: api.XIn, Sub: selects(one)}, api.ErrForm}, {changed(inSub(name, one), func(e *api.Expr) { e.N = 1 }), api.ErrForm},
		{op(api.OpNot, inSub(age, one)), api.OK}, {op(api.OpNeg, inSub(age, one)), api.ErrType},
		{exists(one), api.OK}, {exists(two), api.OK}, {op(api.OpNeg, exists(one)), api.ErrType}, {api.Expr{Kind: api.XExists}, api.ErrForm}, {api.Expr{Kind: api.XExists, Sub: selects(one, one)}, api.ErrForm}, {api.Expr{Kind: api.XExists, Sub: selects(one), Args: exprs(age)}, api.ErrForm}, {changed(exists(one), func(e *api.Expr) { e.Op = 1 }), api.ErrForm}, {changed(exists(one), func(e *api.Expr) { e.Distinct = true }), api.ErrForm}, {changed(exists(one), func(e *api.Expr) { e.Value = integer(1) }), api.ErrForm}, {exists(api.Select{Limit: -1}), api.ErrForm}, {exists(ids("house", "q")), api.ErrName},
		{scalar(one), api.OK}, {op(api.OpNeg, scalar(one)), api.OK}, {op(api.OpLower, scalar(one)), api.ErrType}, {op(api.OpLower, scalar(people0(lit(null)))), api.OK}, {scalar(two), api.ErrForm}, {api.Expr{Kind: api.XScalar}, api.ErrForm}, {api.Expr{Kind: api.XScalar, Sub: selects(one, one)}, api.ErrForm}, {changed(scalar(one), func(e *api.Expr) { e.Source = "p" }), api.ErrForm},
		{agg(0), api.ErrKind}, {agg(api.WinRow), api.ErrKind}, {win(api.AggMost, exprs(age), nil), api.ErrKind}, {win(10, nil, nil), api.ErrKind}, {agg(-1), api.ErrKind}, {changed(agg(api.AggRows), func(e *api.Expr) { e.Sub = selects(one) }), api.ErrKind},
		{agg(api.AggRows), api.OK}, {agg(api.AggRows, age), api.ErrForm}, {agg(api.AggCount), api.ErrForm}, {agg(api.AggCount, name), api.OK}, {agg(api.AggCount, name, name), api.ErrForm}, {distinct(api.AggRows), api.ErrForm}, {distinct(api.AggCount, name), api.OK}, {distinct(api.AggSum, age), api.OK}, {distinct(api.AggLeast, age), api.ErrForm}, {distinct(api.AggMost, age), api.ErrForm}, {changed(agg(api.AggRows), func(e *api.Expr) { e.N = 1 }), api.ErrForm}, {changed(agg(api.AggRows), func(e *api.Expr) { e.Group = exprs(num(1)) }), api.ErrForm}, {changed(agg(api.AggRows), func(e *api.Expr) { e.Order = []api.Order{by(num(1))} }), api.ErrForm},
		{agg(api.AggSum, age), api.OK}, {agg(api.AggSum, name), api.ErrType}, {agg(api.AggSum, lit(null)), api.OK}, {op(api.OpLower, agg(api.AggSum, lit(null))), api.ErrType}, {op(api.OpLower, agg(api.AggLeast, name)), api.OK}, {op(api.OpLower, agg(api.AggMost, lit(null))), api.OK}, {op(api.OpLower, agg(api.AggMost, age)), api.ErrType}, {op(api.OpLower, agg(api.AggRows)), api.ErrType}, {op(api.OpLower, agg(api.AggCount, lit(null))), api.ErrType},
		{win(api.WinRow, nil, nil), api.OK}, {win(api.WinRow, exprs(age), nil), api.ErrForm}, {win(api.WinRank, nil, exprs(age), by(name)), api.OK}, {win(api.WinRank, exprs(age), nil), api.ErrForm}, {win(api.WinSum, exprs(age), nil), api.OK}, {win(api.WinSum, nil, nil), api.ErrForm}, {win(api.WinSum, exprs(name), nil), api.ErrType}, {win(api.WinCount, exprs(name), nil), api.OK}, {win(api.WinCount, exprs(name, name), nil), api.ErrForm}, {changed(win(api.WinCount, exprs(name), nil), func(e *api.Expr) { e.Distinct = true }), api.ErrForm}, {changed(win(api.WinRow, nil, nil), func(e *api.Expr) { e.Name = "w" }), api.ErrForm}, {op(api.OpLower, win(api.WinRank, nil, nil)), api.ErrType}, {op(api.OpLower, win(api.WinCount, exprs(name), nil)), api.ErrType},
		{win(api.WinRow, nil, exprs(col("p", "x"))), api.ErrName}, {win(api.WinRow, nil, nil, by(par(9))), api.ErrArg},
		// ErrKind, ErrForm, ErrState and the others, in this order.
		{agg(api.AggCount, agg(99)), api.ErrKind}, {agg(api.AggCount, agg(api.AggSum)), api.ErrForm}, {agg(api.AggCount, agg(api.AggSum, name)), api.ErrState}, {agg(api.AggCount, changed(agg(99), func(e *api.Expr) { e.N = 1 })), api.ErrKind}, {win(api.WinRow, nil, exprs(win(api.WinSum, exprs(name), nil))), api.ErrState},
	})
}

// people0 is a select without a source.
func people0(e api.Expr) api.Select { return api.Select{Items: items(item("a", e)), Limit: -1} }

// P4.3: where an XAgg and an XWindow can stand.
func TestCheckPlaces(t *testing.T) {
	age, name, rows, row := col("p", "age"), col("p", "name"), agg(api.AggRows), win(api.WinRow, nil, nil)
	count := agg(api.AggCount, age)
	positive := op(api.OpLess, num(0), rows)
	is := op(api.OpLess, num(0), row)
	tryItems(t, []held{
		{agg(api.AggCount, count), api.ErrState}, {agg(api.AggCount, row), api.ErrState}, {win(api.WinCount, exprs(count), nil), api.ErrState}, {win(api.WinRow, nil, exprs(rows)), api.ErrState}, {win(api.WinRow, nil, nil, by(rows)), api.ErrState}, {win(api.WinCount, exprs(row), nil), api.ErrState}, {win(api.WinRow, nil, exprs(row)), api.ErrState}, {win(api.WinRow, nil, nil, by(op(api.OpNeg, row))), api.ErrState},
		{op(api.OpAdd, rows, row), api.ErrState}, {op(api.OpAdd, row, rows), api.ErrState}, {op(api.OpAdd, row, row), api.OK}, {op(api.OpAdd, rows, rows), api.OK},
		// Within a further select it belongs to that one.
		{agg(api.AggCount, scalar(people0(rows))), api.OK}, {agg(api.AggCount, scalar(people0(row))), api.OK}, {win(api.WinCount, exprs(scalar(people0(rows))), nil), api.OK}, {op(api.OpAdd, row, scalar(people0(rows))), api.OK}, {op(api.OpAdd, age, scalar(people0(rows))), api.OK},
	})
	base := people(num(1))
	for i, x := range []struct {
		change func(q *api.Select)
		want   api.Errno
	}{
		{func(q *api.Select) { q.Where = exprs(positive) }, api.ErrState}, {func(q *api.Select) { q.Where = exprs(is) }, api.ErrState}, {func(q *api.Select) { q.Group = exprs(rows) }, api.ErrState}, {func(q *api.Select) { q.Group = exprs(row) }, api.ErrState},
		{func(q *api.Select) { q.Joins = []api.Join{join(table("pet", "q"), positive)} }, api.ErrState}, {func(q *api.Select) { q.Joins = []api.Join{join(table("pet", "q"), is)} }, api.ErrState},
		{func(q *api.Select) { q.Having = exprs(positive) }, api.OK}, {func(q *api.Select) { q.Having = exprs(is) }, api.ErrState}, {func(q *api.Select) { q.Order = []api.Order{by(rows)} }, api.OK}, {func(q *api.Select) { q.Order = []api.Order{by(row)} }, api.OK},
		{func(q *api.Select) { q.Group = exprs(age); q.Order = []api.Order{by(row)} }, api.ErrState}, {func(q *api.Select) { q.Having = exprs(lit(null)); q.Items[0].Expr = row }, api.ErrState}, {func(q *api.Select) { q.Order = []api.Order{by(rows)}; q.Items[0].Expr = row }, api.ErrState},
		{func(q *api.Select) { q.Where = exprs(op(api.OpLess, num(0), scalar(people0(rows)))) }, api.OK}, {func(q *api.Select) { q.Where = exprs(op(api.OpLess, num(0), scalar(people0(row)))) }, api.OK}, {func(q *api.Select) { q.Group = exprs(scalar(people0(rows))) }, api.OK},
		// Own columns of a grouped select.
		{func(q *api.Select) { q.Group = exprs(age); q.Items[0].Expr = name }, api.ErrState}, {func(q *api.Select) { q.Group = exprs(age); q.Items[0].Expr = op(api.OpNeg, age) }, api.OK}, {func(q *api.Select) { q.Group = exprs(op(api.OpNeg, age)); q.Items[0].Expr = age }, api.ErrState}, {func(q *api.Select) { q.Group = exprs(op(api.OpNeg, age)); q.Items[0].Expr = op(api.OpNeg, age) }, api.OK},
		{func(q *api.Select) { q.Items[0].Expr = op(api.OpAdd, age, rows) }, api.ErrState}, {func(q *api.Select) { q.Items[0].Expr = op(api.OpAdd, op(99), op(api.OpAdd, age, rows)) }, api.ErrState}, {func(q *api.Select) { q.Items[0].Expr = op(api.OpAdd, op(99), rows) }, api.ErrKind}, {func(q *api.Select) { q.Items[0].Expr = op(api.OpAdd, rows, col("p", "x")) }, api.ErrState}, {func(q *api.Select) { q.Items[0].Expr = op(api.OpAdd, rows, col("x", "age")) }, api.ErrName},
		{func(q *api.Select) { q.Having = exprs(op(api.OpNull, age)) }, api.ErrState}, {func(q *api.Select) { q.Order = []api.Order{by(age), by(rows)} }, api.ErrState}, {func(q *api.Select) { q.Group = exprs(name); q.Order = []api.Order{by(name)} }, api.OK}, {func(q *api.Select) { q.Group = exprs(name); q.Where = exprs(op(api.OpNull, age)) }, api.OK}, {func(q *api.Select) {
			q.Group = exprs(op(api.OpConcat, name, name))
			q.Items[0].Expr = agg(api.AggMost, name)
		}, api.OK},
		// Also within a further select, where only an XAgg of the grouped one covers them.
		{func(q *api.Select) { q.Items[0].Expr = op(api.OpAdd, rows, scalar(people0(age))) }, api.ErrState}, {func(q *api.Select) { q.Group = exprs(age); q.Items[0].Expr = scalar(people0(age)) }, api.OK}, {func(q *api.Select) { q.Items[0].Expr = agg(api.AggSum, scalar(people0(age))) }, api.OK}, {func(q *api.Select) { q.Items[0].Expr = op(api.OpAdd, rows, scalar(people0(agg(api.AggSum, age)))) }, api.ErrState}, {func(q *api.Select) { q.Group = exprs(age); q.Items[0].Expr = scalar(people0(agg(api.AggSum, age))) }, api.OK},
		{func(q *api.Select) {
			in := ids("pet", "q")
			in.Where = exprs(op(api.OpEqual, col("q", "owner"), age))
			q.Group, q.Items[0].Expr = exprs(name), exists(in)
		}, api.ErrState},
		{func(q *api.Select) {
			in := ids("pet", "q")
			in.From = from(sub(people0(age), "q"))
			in.Items[0].Expr = num(1)
			q.Group, q.Items[0].Expr = exprs(name), exists(in)
		}, api.ErrState},
		// With Distinct rows are ordered by what they have.
		{func(q *api.Select) { q.Distinct = true; q.Items[0].Expr = age; q.Order = []api.Order{by(age)} }, api.OK}, {func(q *api.Select) {
			q.Distinct = true
			q.Items[0].Expr = age
			q.Order = []api.Order{by(op(api.OpNull, age))}
		}, api.OK}, {func(q *api.Select) {
			q.Distinct = true
			q.Items[0].Expr = age
			q.Order = []api.Order{by(op(api.OpNeg, age))}
		}, api.ErrState}, {func(q *api.Select) {
			q.Distinct = true
			q.Items[0].Expr = age
			q.Order = []api.Order{by(op(api.OpNull, op(api.OpNull, age)))}
		}, api.ErrState}, {func(q *api.Select) { q.Distinct = true; q.Order = []api.Order{by(col("p", "x"))} }, api.ErrName}, {func(q *api.Select) { q.Distinct = true; q.Order = []api.Order{by(num(1)), by(num(2))} }, api.ErrState},
	} {
		q := clone(base)
		x.change(&q)
		if err := sql.Check(shop(t), query(q)); err != x.want {
			t.Error(i, err, x.want)
		}
	}
}

// P4.3: what can be named.
func TestCheckNames(t *testing.T) {
	id := func(source string) api.Expr { return col(source, "id") }
	pet := func(where api.Expr) api.Select {
		q := ids("pet", "q")
		q.Where = exprs(where)
		return q
	}
	same := func(a, b string) api.Expr { return op(api.OpEqual, id(a), id(b)) }
	over := func(x api.Source, on api.Expr) api.Select {
		q := people(num(1))
		q.Joins = []api.Join{join(x, on)}
		return q
	}
	named := func(q api.Select, name string) api.Select {
		q.From[0].Name = name
		return q
	}
	for i, x := range []struct {
		q    api.Select
		want api.Errno
	}{
		{people(exists(pet(same("p", "q")))), api.OK}, {people(exists(pet(exists(named(ids("pet", "r"), "r"))))), api.OK}, {people(exists(pet(same("r", "q")))), api.ErrName}, {people(exists(named(pet(lit(null)), "p"))), api.ErrTwice},
		// The condition of a join sees the sources up to its own.
		{over(table("pet", "q"), same("p", "q")), api.OK}, {api.Select{Items: items(item("a", num(1))), From: from(table("person", "p")), Joins: []api.Join{join(table("pet", "q"), same("p", "r")), join(table("pet", "r"), lit(null))}, Limit: -1}, api.ErrName},
		{api.Select{Items: items(item("a", num(1))), From: from(table("person", "p")), Joins: []api.Join{join(table("pet", "q"), exists(ids("none", "r"))), join(table("pet", "r"), lit(null))}, Limit: -1}, api.OK}, {over(table("pet", "q"), exists(pet(lit(null)))), api.ErrTwice},
		// The select of a source does not see its neighbours, and can have their names; it sees what is around.
		{over(sub(pet(same("p", "q")), "r"), lit(null)), api.ErrName}, {over(sub(ids("pet", "p"), "r"), same("p", "r")), api.OK}, {over(sub(pet(lit(null)), "r"), same("q", "r")), api.ErrName}, {over(sub(ids("pet", "r"), "r"), same("p", "r")), api.OK}, {over(sub(ids("pet", "r"), "r"), op(api.OpNull, col("r", "kind"))), api.ErrName},
		{people(exists(api.Select{Items: items(item("a", num(1))), From: from(sub(pet(same("p", "q")), "r")), Limit: -1})), api.OK}, {people(exists(api.Select{Items: items(item("a", num(1))), From: from(sub(named(pet(lit(null)), "p"), "r")), Limit: -1})), api.ErrTwice}, {people(exists(api.Select{Items: items(item("a", num(1))), From: from(sub(ids("pet", "r"), "r")), Where: exprs(same("p", "r")), Limit: -1})), api.OK},
		// A name has at most MaxTall bytes.
		{named(ids("pet", long(api.MaxTall)), long(api.MaxTall)), api.OK}, {api.Select{Items: items(item(long(api.MaxTall), num(1))), Limit: -1}, api.OK}, {api.Select{Items: items(item(long(api.MaxTall+1), num(1))), Limit: -1}, api.ErrName}, {named(ids("pet", "a_0"), "a_0"), api.OK}, {named(ids("pet", "_a"), "_a"), api.ErrName},
		// Columns of a select are of the kinds of its items, also of none.
		{over(sub(people0(lit(null)), "r"), op(api.OpLike, col("r", "a"), op(api.OpAdd, col("r", "a"), num(1)))), api.OK}, {over(sub(people0(lit(text(""))), "r"), op(api.OpLess, col("r", "a"), num(1))), api.ErrType},
	} {
		if err := sql.Check(shop(t), query(x.q)); err != x.want {
			t.Error(i, err, x.want)
		}
	}
}

// nested is an expression with so many levels of parts.
func nested(levels int) api.Expr {
	e := lit(boolean(1))
	for range levels - 1 {
		e = op(api.OpNot, e)
	}
	return e
}

// P4.1, P4.2: what counts as a part, and how many there can be.
func TestCheckLimits(t *testing.T) {
	with := func(change func(q *api.Select)) api.Select {
		q := people(num(1))
		change(&q)
		return q
	}
	wide := func(n int) api.Select {
		return with(func(q *api.Select) {
			q.Items = nil
			for i := range n {
				q.Items = append(q.Items, item("a"+string(rune('a'+i%26))+string(rune('a'+i/26)), num(1)))
			}
		})
	}
	joined := func(n int) api.Select {
		return with(func(q *api.Select) {
			for i := range n {
				q.Joins = append(q.Joins, join(table("none", "a"+string(rune('a'+i%26))+string(rune('a'+i/26))), lit(null)))
			}
		})
	}
	inner := func(q api.Select) api.Select { return people(exists(q)) }
	list := func(n int) api.Expr { return in(append(exprs(num(1)), many(n, num(2))...)...) }
	for i, x := range []struct {
		q    api.Select
		want api.Errno
	}{
		{wide(api.MaxItems), api.OK}, {wide(api.MaxItems + 1), api.ErrLarge}, {joined(api.MaxSources - 1), api.OK}, {joined(api.MaxSources), api.ErrLarge}, {inner(wide(api.MaxItems)), api.ErrTwice}, {inner(wide(api.MaxItems + 1)), api.ErrLarge},
		// The select, the item and the expression; the select and the condition; the select, the element and the expression; the select and the source and its select.
		{people(nested(api.MaxLevels - 2)), api.OK}, {people(nested(api.MaxLevels - 1)), api.ErrLarge},
		{with(func(q *api.Select) { q.Where = exprs(nested(api.MaxLevels - 1)) }), api.OK}, {with(func(q *api.Select) { q.Where = exprs(nested(api.MaxLevels)) }), api.ErrLarge}, {with(func(q *api.Select) { q.Group = exprs(nested(api.MaxLevels)) }), api.ErrLarge}, {with(func(q *api.Select) { q.Having = exprs(nested(api.MaxLevels - 1)) }), api.OK}, {with(func(q *api.Select) { q.Having = exprs(nested(api.MaxLevels)) }), api.ErrLarge},
		{with(func(q *api.Select) { q.Order = []api.Order{by(nested(api.MaxLevels - 2))} }), api.OK}, {with(func(q *api.Select) { q.Order = []api.Order{by(nested(api.MaxLevels - 1))} }), api.ErrLarge},
		{with(func(q *api.Select) { q.From = from(sub(people0(nested(api.MaxLevels-4)), "p")) }), api.OK}, {with(func(q *api.Select) { q.From = from(sub(people0(nested(api.MaxLevels-3)), "p")) }), api.ErrLarge},
		{with(func(q *api.Select) {
			q.Joins = []api.Join{join(table("none", "n"), nested(api.MaxLevels-1))}
		}), api.OK}, {with(func(q *api.Select) { q.Joins = []api.Join{join(table("none", "n"), nested(api.MaxLevels))} }), api.ErrLarge},
		{people(exists(people0(nested(api.MaxLevels - 5)))), api.OK}, {people(exists(people0(nested(api.MaxLevels - 4)))), api.ErrLarge},
		{people(win(api.WinRow, nil, exprs(nested(api.MaxLevels-3)))), api.OK}, {people(win(api.WinRow, nil, exprs(nested(api.MaxLevels-2)))), api.ErrLarge}, {people(win(api.WinRow, nil, nil, by(nested(api.MaxLevels-4)))), api.OK}, {people(win(api.WinRow, nil, nil, by(nested(api.MaxLevels-3)))), api.ErrLarge},
		// The select, the item, the source, the look-up and its first Arg are five parts.
		{people(list(api.MaxBig - 5)), api.OK}, {people(list(api.MaxBig - 4)), api.ErrLarge},
		{with(func(q *api.Select) { q.Items[0].Expr = list(api.MaxBig - 7); q.Order = []api.Order{by(num(1))} }), api.OK}, {with(func(q *api.Select) { q.Items[0].Expr = list(api.MaxBig - 6); q.Order = []api.Order{by(num(1))} }), api.ErrLarge},
		{with(func(q *api.Select) {
			q.Items[0].Expr = list(api.MaxBig - 7)
			q.Joins = []api.Join{join(table("none", "n"), lit(null))}
		}), api.OK}, {with(func(q *api.Select) {
			q.Items[0].Expr = list(api.MaxBig - 6)
			q.Joins = []api.Join{join(table("none", "n"), lit(null))}
		}), api.ErrLarge},
		// Parts of fields that are not used count, too.
		{people(changed(num(1), func(e *api.Expr) { e.Group = many(api.MaxBig, num(1)) })), api.ErrLarge}, {people(changed(num(1), func(e *api.Expr) { e.Sub = selects(people0(nested(api.MaxLevels))) })), api.ErrLarge},
	} {
		if err := sql.Check(shop(t), query(x.q)); err != x.want {
			t.Error(i, err, x.want)
		}
	}
	insert := api.Statement{Kind: api.StInsert, Table: "none", Columns: []string{"id"}}
	for range api.MaxBig {
		insert.Rows = append(insert.Rows, exprs(num(1)))
	}
	if err := sql.Check(shop(t), insert); err != api.OK {
		t.Error(err)
	}
	insert.Rows = append(insert.Rows, exprs(num(1)))
	if err := sql.Check(shop(t), insert); err != api.ErrLarge {
		t.Error(err)
	}
	insert.Rows = [][]api.Expr{{cases(nested(api.MaxLevels-1), num(1), num(2))}}
	if err := sql.Check(shop(t), insert); err != api.OK {
		t.Error(err)
	}
	insert.Rows[0][0].Args[0] = nested(api.MaxLevels)
	if err := sql.Check(shop(t), insert); err != api.ErrLarge {
		t.Error(err)
	}
	if err := sql.Check(shop(t), query(people(num(1)), many60(api.MaxParams)...)); err != api.OK {
		t.Error(err)
	}
}

// many60 is so many kinds of parameters.
func many60(n int) []int {
	l := make([]int, n)
	for i := range l {
		l[i] = api.Int
	}
	return l
}
