package query_test

import (
	"testing"

	"dumbwaiter/api"
	"dumbwaiter/query"
)

// agg is an aggregate; each is one over values that count once.
func agg(op int, path string) api.Agg { return api.Agg{Op: op, Path: path} }

func each(op int, path string) api.Agg { return api.Agg{Op: op, Path: path, Distinct: true} }

// totals are the rows of a total in the zoo, which the compiled statement must have, too.
func totals(t testing.TB, x api.Total, params ...api.Value) [][]api.Value {
	t.Helper()
	got, err := query.Totals(zoo(t), zooWorld(t), x, params)
	must(t, err)
	var kinds []int
	for _, v := range params {
		kinds = append(kinds, max(v.Kind, api.Bool))
	}
	st, err := query.CompileTotal(zoo(t), x, kinds)
	must(t, err)
	s, d := tables(t, zoo(t), zooWorld(t))
	if rows := ask(t, s, d, st, params, api.DialectTick); !same(rows, got) {
		t.Error(x, got, rows)
	}
	return got
}

// P5.15: groups, aggregates, Having.
func TestTotals(t *testing.T) {
	rows := agg(api.AggRows, "")
	for _, c := range []struct {
		x      api.Total
		params []api.Value
		want   [][]api.Value
	}{
		{api.Total{Entity: "person", Aggs: []api.Agg{rows}}, nil, [][]api.Value{row(integer(3))}},
		{api.Total{Entity: "person", Gone: true, Aggs: []api.Agg{rows, agg(api.AggCount, "age"), agg(api.AggSum, "age"), agg(api.AggLeast, "age"), agg(api.AggMost, "age")}}, nil, [][]api.Value{row(integer(4), integer(3), integer(59), integer(12), integer(30))}},
		// There are no objects: one group without Group, none with it.
		{api.Total{Entity: "person", Where: conds(t, "null"), Aggs: []api.Agg{rows, agg(api.AggCount, "age"), agg(api.AggSum, "age"), agg(api.AggLeast, "name"), each(api.AggMost, "name")}}, nil, [][]api.Value{row(integer(0), integer(0), null, null, null)}},
		{api.Total{Entity: "person", Where: conds(t, "null"), Group: []string{"name"}, Aggs: []api.Agg{rows}}, nil, nil},
		{api.Total{Entity: "pet", Group: []string{"owner"}, Aggs: []api.Agg{rows}}, nil, [][]api.Value{row(null, integer(1)), row(integer(1), integer(2)), row(integer(2), integer(1))}},
		{api.Total{Entity: "pet", Group: []string{"owner.name", "tenant"}, Gone: true, Aggs: []api.Agg{rows, agg(api.AggMost, "name"), agg(api.AggLeast, "gone")}}, nil, [][]api.Value{
			row(text("ann"), integer(1), integer(2), text("rex"), null), row(text("bob"), integer(1), integer(1), text("tom"), moment(0)), row(text("bob"), integer(2), integer(2), text("odd"), moment(0)), row(text("eve"), integer(1), integer(1), text("hen"), null),
		}},
		{api.Total{Entity: "dog", Group: []string{"nick"}, Tenant: 1, Aggs: []api.Agg{agg(api.AggCount, "rival"), agg(api.AggSum, "owner.age")}}, nil, [][]api.Value{row(text("dog"), integer(0), integer(30)), row(text("rex"), integer(0), integer(30))}},
		{api.Total{Entity: "person", Group: []string{"adult"}, Aggs: []api.Agg{rows, agg(api.AggLeast, "adult")}}, nil, [][]api.Value{row(null, integer(1), null), row(boolean(0), integer(1), boolean(0)), row(boolean(1), integer(1), boolean(1))}},
		// Each value once.
		{api.Total{Entity: "pet", Gone: true, Aggs: []api.Agg{agg(api.AggCount, "owner"), each(api.AggCount, "owner"), agg(api.AggSum, "owner"), each(api.AggSum, "owner"), each(api.AggLeast, "owner"), each(api.AggMost, "owner")}}, nil, [][]api.Value{row(integer(6), integer(3), integer(11), integer(6), integer(1), integer(3))}},
		// Having
		{api.Total{Entity: "pet", Group: []string{"owner"}, Aggs: []api.Agg{rows}, Having: conds(t, "greater(:agg0,1)")}, nil, [][]api.Value{row(integer(1), integer(2))}},
		{api.Total{Entity: "pet", Group: []string{"owner", "owner.mate"}, Aggs: []api.Agg{rows, agg(api.AggCount, "name")}, Having: conds(t, "or(null(:group0),equal(add(:group1,:agg1),?0))")}, row(integer(3)), [][]api.Value{row(null, null, integer(1), integer(1)), row(integer(1), integer(2), integer(2), integer(1))}},
		{api.Total{Entity: "pet", Aggs: []api.Agg{rows}, Having: conds(t, "greater(:agg0,9)")}, nil, nil},
		{api.Total{Entity: "pet", Aggs: []api.Agg{rows}, Having: conds(t, "null")}, nil, nil},
		{api.Total{Entity: "pet", Group: []string{"owner"}, Aggs: []api.Agg{rows}, Having: conds(t, "?0")}, row(null), nil},
	} {
		if got := totals(t, c.x, c.params...); !same(got, c.want) {
			t.Error(c.x, got)
		}
	}
}

// P5.15: a sum that is not right is null, also if it could be right again.
func TestSum(t *testing.T) {
	m := model(t, "entity a", "field n int null")
	for _, c := range []struct {
		l    []int
		want api.Value
	}{
		{[]int{api.MaxInt}, integer(api.MaxInt)}, {[]int{api.MaxInt, 1}, null}, {[]int{-api.MaxInt, -1}, null}, {[]int{api.MaxInt, 1, -1}, integer(api.MaxInt)}, {[]int{-api.MaxInt, api.MaxInt}, integer(0)},
	} {
		var w api.World
		for i, n := range c.l {
			w.Objects = append(w.Objects, api.Object{Entity: "a", ID: i + 1, Values: row(integer(n))})
		}
		x := api.Total{Entity: "a", Aggs: []api.Agg{agg(api.AggSum, "n")}}
		got, err := query.Totals(m, w, x, nil)
		st, e := query.CompileTotal(m, x, nil)
		must(t, err, e)
		s, d := tables(t, m, w)
		if rows := ask(t, s, d, st, nil, 1); !same(got, [][]api.Value{row(c.want)}) || !same(rows, got) {
			t.Error(c, got, rows)
		}
	}
}

// P5.16: errors of totals in their order, also of CompileTotal and Totals.
func TestCheckTotal(t *testing.T) {
	type args struct {
		X      api.Total
		Params []int
	}
	where := func(s string) func(x *args) { return func(x *args) { x.X.Where = conds(t, s) } }
	having := func(s string) func(x *args) { return func(x *args) { x.X.Having = conds(t, s) } }
	aggs := func(l ...api.Agg) func(x *args) { return func(x *args) { x.X.Aggs = l } }
	paths := func(l ...string) func(x *args) { return func(x *args) { x.X.Group = l } }
	rows := agg(api.AggRows, "")
	base := args{api.Total{Entity: "person", Where: conds(t, "?0"), Group: []string{"name", "mate.age"}, Aggs: []api.Agg{rows, agg(api.AggMost, "gone")}, Having: conds(t, "and(equal(:group0,'x'),and(null(:agg1),?0))")}, []int{api.Bool}}
	tryFaults(t, base, func(x args) api.Errno {
		err := query.CheckTotal(zoo(t), x.X, x.Params)
		st, e := query.CompileTotal(zoo(t), x.X, x.Params)
		if e != err || err != api.OK && !same(st, api.Statement{}) {
			t.Error(st, e, err)
		}
		if len(x.Params) == 1 && x.Params[0] != 0 {
			params := row([]api.Value{null, boolean(1), integer(1), text(""), moment(0)}[x.Params[0]])
			if l, e := query.Totals(zoo(t), zooWorld(t), x.X, params); e != err || err != api.OK && len(l) > 0 {
				t.Error(l, e, err)
			}
		}
		return err
	}, []fault[args]{
		{"entity", func(x *args) { x.X.Entity = "owl" }, api.ErrName},
		{"where", func(x *args) { x.X.Where = many(2, lit(null)) }, api.ErrForm},
		{"having", func(x *args) { x.X.Having = many(2, lit(null)) }, api.ErrForm},
		{"params", func(x *args) { x.Params = []int{0} }, api.ErrKind},
		{"where", func(x *args) { x.X.Where = []api.Expr{nested(24, lit(null))} }, api.ErrLarge},
		{"where", where("null(:pay)"), api.ErrName},
		{"where", where("?1"), api.ErrArg},
		{"where", where(":age"), api.ErrType},
		{"group", paths("x", "x", "x", "x", "x"), api.ErrLarge},
		{"aggs", aggs(api.Agg{}, rows, rows, rows, rows, rows, rows), api.ErrLarge},
		{"group", paths("name", "mate.mate.mate.mate.mate.x", "x"), api.ErrLarge},
		{"group", paths("name", "pets"), api.ErrName},
		{"aggs", aggs(), api.ErrForm},
		{"aggs", aggs(rows, agg(0, ""), agg(api.AggSum, "")), api.ErrKind},
		{"aggs", aggs(rows, agg(api.WinRow, "x")), api.ErrKind},
		{"aggs", aggs(rows, agg(-1, "x")), api.ErrKind},
		{"aggs", aggs(rows, agg(api.AggRows, "name"), agg(0, "")), api.ErrForm},
		{"aggs", aggs(rows, each(api.AggRows, "")), api.ErrForm},
		{"aggs", aggs(rows, agg(api.AggSum, "")), api.ErrForm},
		{"aggs", aggs(rows, agg(api.AggSum, "x"), agg(0, "")), api.ErrName},
		{"aggs", aggs(rows, agg(api.AggCount, "mate.mate.mate.mate.mate.x")), api.ErrLarge},
		{"aggs", aggs(rows, agg(api.AggSum, "name")), api.ErrType},
		{"aggs", aggs(rows, agg(api.AggSum, "gone")), api.ErrType},
		{"having", func(x *args) { x.X.Having = []api.Expr{nested(24, lit(null))} }, api.ErrLarge},
		{"having", having("null(:name)"), api.ErrName},
		{"having", having("null(:group2)"), api.ErrName},
		{"having", having("null(:agg2)"), api.ErrName},
		{"having", having("null(up:agg0)"), api.ErrName},
		{"having", having("some:pets()"), api.ErrKind},
		{"having", having("equal(:group0,1)"), api.ErrType},
		{"having", having("equal(:agg0,'x')"), api.ErrType},
		{"having", having("?1"), api.ErrArg},
		{"having", having(":agg0"), api.ErrType},
		{"tenant", func(x *args) { x.X.Tenant = -1 }, api.ErrArg},
		{"tenant", func(x *args) { x.X.Tenant = api.MaxInt + 1 }, api.ErrArg},
	})
	for _, change := range []func(x *args){aggs(each(api.AggLeast, "name"), each(api.AggSum, "age"), each(api.AggCount, "mate.adult"), agg(api.AggSum, "mate"), rows, rows), paths("id", "id", "gone", "version"), having("null")} {
		x := clone(base)
		change(&x)
		x.X.Having = nil
		if err := query.CheckTotal(zoo(t), x.X, x.Params); err != api.OK {
			t.Error(x, err)
		}
	}
}

// P5.16: parameters that are null fit everywhere, but there must be as many as are named.
func TestNullsOfTotals(t *testing.T) {
	// The sum of null and a number is of the kind Null, which fits Bool.
	for s, want := range map[string]api.Errno{"equal(:group0,?0)": api.OK, "equal(:agg0,?0)": api.OK, "?0": api.OK, "?1": api.ErrType, "?2": api.ErrArg, "add(?0,1)": api.OK} {
		x := api.Total{Entity: "person", Group: []string{"name"}, Aggs: []api.Agg{agg(api.AggRows, "")}, Having: conds(t, s)}
		l, err := query.Totals(zoo(t), zooWorld(t), x, row(null, integer(1)))
		if err != want || len(l) > 0 {
			t.Error(s, l, err)
		}
	}
	odd := api.Expr{Kind: api.XParam, Value: integer(1)}
	x := api.Total{Entity: "person", Aggs: []api.Agg{agg(api.AggRows, "")}, Having: []api.Expr{odd}}
	if _, err := query.Totals(zoo(t), zooWorld(t), x, row(null)); err != api.ErrForm {
		t.Error(err)
	}
	if _, err := query.KindOf(zoo(t), "person", odd, []int{api.Bool}); err != api.ErrForm {
		t.Error(err)
	}
}

// P5.16: the weight of a total.
func TestWeightOfTotals(t *testing.T) {
	for _, c := range []struct {
		x      api.Total
		weight int
	}{
		{api.Total{Entity: "tag", Aggs: []api.Agg{agg(api.AggRows, "")}}, 1 + 1},
		{api.Total{Entity: "worker", Group: []string{"name", "mate"}, Aggs: []api.Agg{agg(api.AggRows, ""), agg(api.AggSum, "mate.mate.age"), agg(api.AggMost, "adult")}}, 5 + 1 + 1 + 2},
		{api.Total{Entity: "pet", Aggs: []api.Agg{agg(api.AggRows, "")}}, 1 + 1},
		{api.Total{Entity: "puppy", Aggs: []api.Agg{agg(api.AggCount, "rival.owner.tall")}}, 1 + 3 + 2},
		{api.Total{Entity: "cat", Group: []string{"fears.nick"}, Aggs: []api.Agg{agg(api.AggCount, "fears")}}, 2 + 2 + 2 + 2},
	} {
		for over := range 2 {
			c.x.Where = []api.Expr{{Kind: api.XIn, Args: many(api.MaxWeight-c.weight-1+over, lit(null))}}
			want := []api.Errno{api.OK, api.ErrLarge}[over]
			if err := query.CheckTotal(zoo(t), c.x, nil); err != want {
				t.Error(c, over, err)
			}
			if _, err := query.CompileTotal(zoo(t), c.x, nil); err != want {
				t.Error(c, over, err)
			}
		}
	}
	// The formula of adult has three parts beside the XColumn.
	x := api.Total{Entity: "person", Aggs: []api.Agg{agg(api.AggRows, "")}}
	for n, want := range map[int]api.Errno{api.MaxWeight - 7: api.OK, api.MaxWeight - 6: api.ErrLarge} {
		x.Where = []api.Expr{{Kind: api.XIn, Args: append(many(n, lit(null)), col("", "adult"))}}
		if err := query.CheckTotal(zoo(t), x, nil); err != want {
			t.Error(n, err)
		}
	}
}
