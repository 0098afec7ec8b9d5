package sql_test

import (
	"testing"

	"dumbwaiter/api"
	"dumbwaiter/sql"
)

// claim is a statement over a schema.
type claim struct {
	S  api.Schema
	St api.Statement
}

// checkClaim says the error of Check, and checks that the other functions have it, too.
func checkClaim(t *testing.T) func(x claim) api.Errno {
	return func(x claim) api.Errno {
		err := sql.Check(x.S, x.St)
		if _, other := sql.Headings(x.S, x.St); other != err {
			t.Error("Headings", other, err)
		}
		if _, other := sql.Plan(x.S, x.St); other != err {
			t.Error("Plan", other, err)
		}
		if _, other := sql.Explain(x.S, x.St); other != err {
			t.Error("Explain", other, err)
		}
		if _, other := sql.Print(x.S, x.St, api.DialectPlain); other != err {
			t.Error("Print", other, err)
		}
		return err
	}
}

// usual is a select with a bit of everything.
func usual() api.Statement {
	return query(api.Select{
		Items:  items(item("name", col("p", "name")), item("many", agg(api.AggRows))),
		From:   from(table("person", "p")),
		Joins:  []api.Join{join(table("pet", "q"), op(api.OpEqual, col("q", "owner"), col("p", "id"))), leftJoin(sub(ids("none", "m"), "l"), lit(boolean(1)))},
		Where:  exprs(op(api.OpLess, col("p", "id"), par(0))),
		Group:  exprs(col("p", "name"), col("p", "age")),
		Having: exprs(op(api.OpLess, num(0), agg(api.AggRows))),
		Order:  []api.Order{by(col("p", "age"))},
		Limit:  -1,
	}, api.Int)
}

// many is a number of expressions.
func many(n int, e api.Expr) []api.Expr {
	l := make([]api.Expr, n)
	for i := range l {
		l[i] = e
	}
	return l
}

// P4.2, P4.3: the errors of a select, in their order.
func TestCheckSelect(t *testing.T) {
	base := claim{shop(t), usual()}
	q := func(x *claim) *api.Select { return &x.St.Select[0] }
	faults := []fault[claim]{
		{"schema", func(x *claim) { x.S.Tables[1].Name = "" }, api.ErrName},
		{"params", func(x *claim) { x.St.Params = make([]int, api.MaxParams+1) }, api.ErrLarge},
		{"kind", func(x *claim) { x.St.Kind = 5 }, api.ErrKind},
		{"kind", func(x *claim) { x.St.Kind = 0 }, api.ErrKind},
		{"table", func(x *claim) { x.St.Table = "pet" }, api.ErrForm},
		{"params", func(x *claim) { x.St.Params[0] = 5 }, api.ErrKind},
		{"params", func(x *claim) { x.St.Params[0] = 0 }, api.ErrKind},
		{"select", func(x *claim) { x.St.Select = append(x.St.Select, x.St.Select[0]) }, api.ErrForm},
		{"from", func(x *claim) { q(x).From = append(q(x).From, table("none", "n")) }, api.ErrForm},
		{"from", func(x *claim) { q(x).From = nil }, api.ErrForm},
		{"where", func(x *claim) { q(x).Where = many(2, lit(boolean(1))) }, api.ErrForm},
		{"having", func(x *claim) { q(x).Having = many(2, lit(boolean(1))) }, api.ErrForm},
		{"items", func(x *claim) { q(x).Items = nil }, api.ErrForm},
		{"limit", func(x *claim) { q(x).Limit = -2 }, api.ErrArg},
		{"limit", func(x *claim) { q(x).Limit = api.MaxInt + 1 }, api.ErrArg},
		{"offset", func(x *claim) { q(x).Offset = -1 }, api.ErrArg},
		{"offset", func(x *claim) { q(x).Offset = api.MaxInt + 1 }, api.ErrArg},
		{"from name", func(x *claim) { q(x).From[0].Name = "1p" }, api.ErrName},
		{"from name", func(x *claim) { q(x).From[0].Name = "" }, api.ErrName},
		{"from table", func(x *claim) { q(x).From[0].Table = "" }, api.ErrForm},
		{"from table", func(x *claim) { q(x).From[0].Sub = selects(ids("none", "m")) }, api.ErrForm},
		{"from table", func(x *claim) { q(x).From[0].Table = "house" }, api.ErrName},
		{"join name", func(x *claim) { q(x).Joins[0].Source.Name = "Q" }, api.ErrName},
		{"join name", func(x *claim) { q(x).Joins[0].Source.Name = "p" }, api.ErrTwice},
		{"join table", func(x *claim) {
			q(x).Joins[0].Source = api.Source{Name: q(x).Joins[0].Source.Name, Sub: selects(ids("none", "m"), ids("none", "m"))}
		}, api.ErrForm},
		{"join table", func(x *claim) { q(x).Joins[0].Source.Table = "house" }, api.ErrName},
		{"on", func(x *claim) { q(x).Joins[0].On = col("l", "id") }, api.ErrName},
		{"on", func(x *claim) { q(x).Joins[0].On = num(1) }, api.ErrType},
		{"join 2 name", func(x *claim) { q(x).Joins[1].Source.Name = long(41) }, api.ErrName},
		{"join 2 name", func(x *claim) { q(x).Joins[1].Source.Name = "q" }, api.ErrTwice},
		{"sub", func(x *claim) { q(x).Joins[1].Source.Sub[0].Items = nil }, api.ErrForm},
		{"sub item", func(x *claim) { q(x).Joins[1].Source.Sub[0].Items[0].Expr = col("p", "id") }, api.ErrName},
		{"on 2", func(x *claim) { q(x).Joins[1].On = col("l", "n") }, api.ErrName},
		{"where", func(x *claim) { q(x).Where[0] = par(1) }, api.ErrArg},
		{"where", func(x *claim) { q(x).Where[0] = col("p", "seen") }, api.ErrType},
		{"group", func(x *claim) { q(x).Group[1] = op(api.OpLower, col("p", "age")) }, api.ErrType},
		{"having", func(x *claim) { q(x).Having[0] = col("p", "id") }, api.ErrState},
		{"having", func(x *claim) { q(x).Having[0] = op(api.OpNot, num(1)) }, api.ErrType},
		{"having", func(x *claim) { q(x).Having[0] = agg(api.AggRows) }, api.ErrType},
		{"item name", func(x *claim) { q(x).Items[0].Name = "a-b" }, api.ErrName},
		{"item", func(x *claim) { q(x).Items[0].Expr = col("p", "id") }, api.ErrState},
		{"item", func(x *claim) { q(x).Items[0].Expr = col("x", "id") }, api.ErrName},
		{"item 2 name", func(x *claim) { q(x).Items[1].Name = "name" }, api.ErrTwice},
		{"item 2", func(x *claim) { q(x).Items[1].Expr = agg(api.WinRow) }, api.ErrKind},
		{"order", func(x *claim) { q(x).Order[0].Expr = col("q", "id") }, api.ErrState},
		{"order", func(x *claim) { q(x).Order[0].Expr = op(99) }, api.ErrKind},
		{"distinct", func(x *claim) { q(x).Distinct = true }, api.ErrState},
	}
	tryFaults(t, base, checkClaim(t), faults)
}

// P4.2: the errors of inserts, updates and deletes, in their order.
func TestCheckChanges(t *testing.T) {
	insert := claim{shop(t), api.Statement{Kind: api.StInsert, Params: []int{api.Text}, Table: "pet", Columns: []string{"id", "kind"}, Rows: [][]api.Expr{{num(1), par(0)}, {num(2), lit(null)}}}}
	tryFaults(t, insert, checkClaim(t), []fault[claim]{
		{"schema", func(x *claim) { x.S.Tables[1].Key = nil }, api.ErrForm},
		{"params", func(x *claim) { x.St.Params = make([]int, api.MaxParams+1) }, api.ErrLarge},
		{"kind", func(x *claim) { x.St.Kind = -1 }, api.ErrKind},
		{"name", func(x *claim) { x.St.Name = "p" }, api.ErrForm},
		{"sets", func(x *claim) { x.St.Sets = many(1, num(1)) }, api.ErrForm},
		{"where", func(x *claim) { x.St.Where = many(1, num(1)) }, api.ErrForm},
		{"params", func(x *claim) { x.St.Params[0] = 7 }, api.ErrKind},
		{"table", func(x *claim) { x.St.Table = "house" }, api.ErrName},
		{"select", func(x *claim) { x.St.Select = selects(ids("none", "m")) }, api.ErrForm},
		{"rows", func(x *claim) { x.St.Rows = nil }, api.ErrForm},
		{"column", func(x *claim) { x.St.Columns[0] = "size" }, api.ErrName},
		{"column 2", func(x *claim) { x.St.Columns[1] = "id" }, api.ErrTwice},
		{"row", func(x *claim) { x.St.Rows[0] = x.St.Rows[0][:1] }, api.ErrForm},
		{"value", func(x *claim) { x.St.Rows[0][0] = col("pet", "id") }, api.ErrName},
		{"value", func(x *claim) { x.St.Rows[0][0] = agg(api.AggRows) }, api.ErrState},
		{"value", func(x *claim) { x.St.Rows[0][0] = lit(text("a")) }, api.ErrType},
		{"row 2", func(x *claim) { x.St.Rows[1] = append(x.St.Rows[1], num(1)) }, api.ErrForm},
		{"value 2", func(x *claim) { x.St.Rows[1][1] = win(api.WinRow, nil, nil) }, api.ErrState},
	})
	into := claim{shop(t), api.Statement{Kind: api.StInsert, Table: "pet", Columns: []string{"id", "kind"}, Select: selects(api.Select{Items: items(item("a", num(1)), item("b", lit(null))), Limit: -1})}}
	tryFaults(t, into, checkClaim(t), []fault[claim]{
		{"columns", func(x *claim) { x.St.Columns = nil }, api.ErrForm},
		{"select", func(x *claim) { x.St.Select = append(x.St.Select, x.St.Select[0]) }, api.ErrForm},
		{"select", func(x *claim) { x.St.Select = nil }, api.ErrForm},
		{"columns", func(x *claim) { x.St.Columns[0] = "" }, api.ErrName},
		{"columns", func(x *claim) { x.St.Columns[1] = "id" }, api.ErrTwice},
		{"limit", func(x *claim) { x.St.Select[0].Limit = -2 }, api.ErrArg},
		{"item", func(x *claim) { x.St.Select[0].Items[0].Expr = col("pet", "id") }, api.ErrName},
		{"item", func(x *claim) { x.St.Select[0].Items[0].Expr = agg(api.AggLeast, lit(moment(1))) }, api.ErrType},
		{"item 2", func(x *claim) { x.St.Select[0].Items[1].Expr = num(1) }, api.ErrType},
	})
	for _, l := range [][]api.Item{into.St.Select[0].Items[:1], append(clone(into.St.Select[0].Items), item("c", num(1)))} {
		x := clone(into)
		x.St.Select[0].Items = l
		if err := sql.Check(x.S, x.St); err != api.ErrForm {
			t.Error(len(l), err)
		}
	}
	update := claim{shop(t), api.Statement{Kind: api.StUpdate, Table: "pet", Name: "x", Columns: []string{"n", "kind"}, Sets: exprs(col("x", "owner"), lit(null)), Where: exprs(op(api.OpNull, col("x", "n")))}}
	tryFaults(t, update, checkClaim(t), []fault[claim]{
		{"select", func(x *claim) { x.St.Select = selects(ids("none", "m")) }, api.ErrForm},
		{"rows", func(x *claim) { x.St.Rows = [][]api.Expr{nil} }, api.ErrForm},
		{"table", func(x *claim) { x.St.Table = "" }, api.ErrName},
		{"name", func(x *claim) { x.St.Name = "" }, api.ErrName},
		{"columns", func(x *claim) { x.St.Columns = nil; x.St.Sets = nil }, api.ErrForm},
		{"columns", func(x *claim) { x.St.Columns = x.St.Columns[:1] }, api.ErrForm},
		{"columns", func(x *claim) { x.St.Columns[0] = "age" }, api.ErrName},
		{"columns", func(x *claim) { x.St.Columns[1] = "n" }, api.ErrTwice},
		{"sets", func(x *claim) { x.St.Sets[0] = agg(api.AggCount, col("x", "owner")) }, api.ErrState},
		{"sets", func(x *claim) { x.St.Sets[0] = col("pet", "owner") }, api.ErrName},
		{"sets", func(x *claim) { x.St.Sets[0] = col("x", "kind") }, api.ErrType},
		{"where", func(x *claim) { x.St.Where = many(2, lit(boolean(1))) }, api.ErrForm},
		{"where", func(x *claim) { x.St.Where[0] = win(api.WinRank, nil, nil) }, api.ErrState},
		{"where", func(x *claim) { x.St.Where[0] = exists(ids("pet", "x")) }, api.ErrTwice},
		{"where", func(x *claim) { x.St.Where[0] = col("x", "owner") }, api.ErrType},
	})
	remove := claim{shop(t), api.Statement{Kind: api.StDelete, Table: "pet", Name: "x", Where: exprs(exists(ids("pet", "y")))}}
	tryFaults(t, remove, checkClaim(t), []fault[claim]{
		{"columns", func(x *claim) { x.St.Columns = []string{"n"} }, api.ErrForm},
		{"table", func(x *claim) { x.St.Table = "x" }, api.ErrName},
		{"name", func(x *claim) { x.St.Name = "X" }, api.ErrName},
		{"where", func(x *claim) { x.St.Where = many(2, lit(boolean(1))) }, api.ErrForm},
		{"where", func(x *claim) { x.St.Where[0] = col("y", "id") }, api.ErrName},
		{"where", func(x *claim) { x.St.Where[0] = num(0) }, api.ErrType},
	})
}
