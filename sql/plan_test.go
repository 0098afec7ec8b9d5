package sql_test

import (
	"testing"

	"dumbwaiter/api"
	"dumbwaiter/schema"
	"dumbwaiter/sql"
)

// planned is a statement and the lines of Explain.
type planned struct {
	st   api.Statement
	want string
}

// tryPlans tries statements, which have one parameter, an Int.
func tryPlans(t *testing.T, s api.Schema, l []planned) {
	t.Helper()
	for i, x := range l {
		x.st.Params = []int{api.Int}
		got, err := sql.Explain(s, x.st)
		if err != api.OK || got != x.want {
			t.Errorf("%d %d %q %q", i, err, got, x.want)
		}
		l, err := sql.Plan(s, x.st)
		text := ""
		for _, a := range l {
			text += planText(x.st, a)
		}
		if err != api.OK || text != got {
			t.Error(i, l, got)
		}
	}
}

// planText is a line for an Access.
func planText(st api.Statement, a api.Access) string {
	table := st.Table
	for _, q := range st.Select {
		for _, x := range append(clone(q.From), sourcesOfJoins(q.Joins)...) {
			if x.Name == a.Source {
				table = x.Table
			}
		}
	}
	switch {
	case a.Way == api.ByKey && a.Index == "" && a.Count == 0:
		return "key " + a.Source + " " + table + "\n"
	case a.Way == api.ByIndex:
		return "index " + a.Source + " " + table + " " + a.Index + " " + string(rune('0'+a.Count)) + "\n"
	case a.Way == api.ByScan && a.Index == "" && a.Count == 0:
		return "scan " + a.Source + " " + table + "\n"
	}
	return "?"
}

func sourcesOfJoins(l []api.Join) []api.Source {
	var r []api.Source
	for _, j := range l {
		r = append(r, j.Source)
	}
	return r
}

// equal is an OpEqual of a column of q.
func equal(name string, e api.Expr) api.Expr { return op(api.OpEqual, col("q", name), e) }

// and is one or more conditions together.
func and(l ...api.Expr) api.Expr {
	e := l[0]
	for _, x := range l[1:] {
		e = op(api.OpAnd, e, x)
	}
	return e
}

// where is a select of pets with a condition.
func where(e api.Expr) api.Select {
	return with(zoo(num(1)), func(q *api.Select) { q.Where = exprs(e) })
}

// P4.11, P4.12: which bounds a source has, and how it is read by them.
func TestPlanOfASource(t *testing.T) {
	cat := lit(text("cat"))
	sub := scalar(people0(num(1)))
	var l []planned
	for _, x := range []struct {
		e    api.Expr
		want string
	}{
		{lit(boolean(1)), "scan q pet"}, {equal("id", num(1)), "key q pet"}, {op(api.OpEqual, num(1), col("q", "id")), "key q pet"}, {equal("id", par(0)), "key q pet"}, {equal("id", lit(null)), "key q pet"}, {equal("kind", cat), "index q pet bykind 1"},
		// Constants.
		{equal("id", op(api.OpAdd, num(1), cases(in(par(0), num(1)), par(0), op(api.OpNeg, num(2))))), "key q pet"}, {equal("id", col("q", "n")), "scan q pet"}, {equal("id", op(api.OpAdd, num(1), col("q", "n"))), "scan q pet"}, {equal("id", sub), "scan q pet"}, {equal("id", op(api.OpNeg, sub)), "scan q pet"}, {op(api.OpEqual, num(1), num(1)), "scan q pet"}, {equal("id", cases(inSub(num(1), people0(num(1))), num(1), num(2))), "scan q pet"}, {equal("id", cases(exists(people0(num(1))), num(1), num(2))), "scan q pet"},
		// Conjuncts.
		{and(equal("n", num(1)), equal("id", num(2))), "key q pet"}, {op(api.OpAnd, lit(null), op(api.OpAnd, lit(null), equal("id", num(1)))), "key q pet"}, {op(api.OpOr, equal("id", num(1)), equal("id", num(2))), "scan q pet"}, {op(api.OpNot, op(api.OpNot, equal("id", num(1)))), "scan q pet"}, {op(api.OpSame, col("q", "id"), num(1)), "scan q pet"}, {op(api.OpAtMost, col("q", "id"), num(1)), "scan q pet"}, {in(col("q", "id"), num(1)), "scan q pet"}, {op(api.OpEqual, op(api.OpAdd, col("q", "id"), num(0)), num(1)), "scan q pet"}, {op(api.OpEqual, equal("id", num(1)), lit(boolean(1))), "scan q pet"},
		// Indexes: the greatest number of first columns, of several the first one by name; the key ahead of all.
		{and(equal("kind", cat), equal("n", num(1))), "index q pet bykind 2"}, {and(equal("n", num(1)), equal("kind", cat)), "index q pet bykind 2"}, {equal("n", num(1)), "scan q pet"}, {and(equal("kind", cat), equal("owner", num(1))), "index q pet bykind 1"}, {equal("owner", num(1)), "index q pet byowner 1"}, {and(equal("kind", cat), equal("n", num(1)), equal("id", num(1))), "key q pet"},
	} {
		l = append(l, planned{query(where(x.e)), x.want + "\n"})
	}
	tryPlans(t, shop(t), l)
	// An index that is longer, and one that comes first; a key of two columns.
	s, err := schema.SchemaRead("table pet\ncolumn id int\ncolumn kind text\ncolumn n int null\ncolumn owner int null\nkey id kind\nindex a owner\nindex b n id owner\nunique c n owner\nindex d n owner\n")
	must(t, err)
	tryPlans(t, s, []planned{
		{query(where(equal("id", num(1)))), "scan q pet\n"}, {query(where(and(equal("id", num(1)), equal("kind", cat)))), "key q pet\n"}, {query(where(and(equal("id", num(1)), equal("n", num(2))))), "index q pet b 2\n"}, {query(where(and(equal("owner", num(1)), equal("n", num(2))))), "index q pet c 2\n"}, {query(where(and(equal("owner", num(1)), equal("n", num(2)), equal("id", num(3))))), "index q pet b 3\n"}, {query(where(equal("owner", num(2)))), "index q pet a 1\n"}, {query(where(equal("n", num(2)))), "index q pet b 1\n"},
	})
}

// P4.11: the sources of a select, the table of a change, and what has no part in a plan.
func TestPlanOfStatements(t *testing.T) {
	id := func(source string) api.Expr { return op(api.OpEqual, col(source, "id"), num(1)) }
	all := with(where(and(id("q"), op(api.OpEqual, col("p", "name"), lit(text("ann"))), id("r"), equal("n", num(1)))), func(q *api.Select) {
		q.Joins = []api.Join{leftJoin(table("person", "p"), id("q")), join(sub(ids("none", "n"), "r"), id("p")), join(table("link", "l"), lit(null)), join(table("pet", "q2"), id("q2"))}
		q.Items[0].Expr = scalar(where(id("q")))
		q.Items[0].Expr.Sub[0].From[0].Name = "z"
		q.Items[0].Expr.Sub[0].Where = exprs(id("z"))
	})
	const text = "key q pet\nindex p person byname 1\nscan l link\nscan q2 pet\n"
	change := func(f func(n string, l ...api.Expr) api.Statement, e api.Expr) api.Statement { return f("pet", e) }
	sets := func(n string, l ...api.Expr) api.Statement {
		return update(n, []string{"n"}, exprs(scalar(ids("none", "n"))), l...)
	}
	tryPlans(t, shop(t), []planned{
		{query(all), text}, {into("none", []string{"id"}, all), text}, {query(people0(num(1))), ""}, {insert("none", []string{"id"}, exprs(scalar(where(id("q"))))), ""},
		{change(remove, is(3)), "key x pet\n"}, {change(remove, op(api.OpEqual, col("x", "owner"), par(0))), "index x pet byowner 1\n"}, {remove("pet"), "scan x pet\n"}, {change(sets, is(3)), "key x pet\n"}, {change(sets, exists(ids("none", "n"))), "scan x pet\n"}, {sets("pet"), "scan x pet\n"},
		// Having and conditions of joins are no bounds.
		{query(with(people(agg(api.AggRows)), func(q *api.Select) {
			q.Group = exprs(col("p", "id"))
			q.Having = exprs(id("p"))
			q.Joins = []api.Join{join(table("none", "n"), and(id("n"), id("p")))}
		})), "scan p person\nscan n none\n"},
	})
}
