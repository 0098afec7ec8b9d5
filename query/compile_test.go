package query_test

import (
	"slices"
	"strconv"
	"strings"
	"testing"

	"dumbwaiter/api"
	"dumbwaiter/query"
	"dumbwaiter/schema"
	"dumbwaiter/sql"
)

// deepModel is a model with a formula of 24 levels, and relations of all kinds from and to an entity below another one. kind is what the families have.
func deepModel(t testing.TB, kind string) api.Model {
	t.Helper()
	m := model(t, "entity a "+kind, "field x bool null", "one up a clear", "many all b up", "pairs sym a sym", "pairs to b from", "entity b of a", "field n int null", "pairs from a to")
	deep := api.Field{Name: "deep", Kind: api.Bool, Formula: []api.Expr{nested(22, op(api.OpNull, col("", "x")))}}
	m.Entities[0].Fields = append(m.Entities[0].Fields, deep)
	must(t, schema.Check(m))
	return m
}

// deepKinds are the kinds of deepModel.
func deepKinds() []string {
	return []string{"version soft tenant", "apart version soft tenant", "version", "apart version"}
}

// deepWorld is a world of a deepModel in which everything is related to everything.
func deepWorld(m api.Model) api.World {
	var w api.World
	root := m.Entities[0]
	tenant := 0
	if root.Tenant {
		tenant = 1
	}
	for id := 1; id <= 2; id++ {
		w.Objects = append(w.Objects, api.Object{Entity: "b", Tenant: tenant, ID: id, Version: 1, Values: row(null, null), Ones: []int{1}})
	}
	for _, ends := range [][2]int{{1, 1}, {1, 2}, {2, 2}} {
		w.Pairs = append(w.Pairs, api.PairOf{Entity: "a", Relation: "sym", Tenant: tenant, Left: ends[0], Right: ends[1]})
	}
	for _, ends := range [][2]int{{1, 1}, {1, 2}, {2, 1}, {2, 2}} {
		w.Pairs = append(w.Pairs, api.PairOf{Entity: "a", Relation: "to", Tenant: tenant, Left: ends[0], Right: ends[1]})
	}
	return w
}

// P5.13, P5.16: finds and totals with as many levels as there can be are within the limits of statements.
func TestDeepest(t *testing.T) {
	for _, kind := range deepKinds() {
		m := deepModel(t, kind)
		w := deepWorld(m)
		s, d := tables(t, m, w)
		for _, names := range [][]string{{"all"}, {"sym"}, {"to"}, {"from", "to"}} {
			for _, multiKind := range []int{api.XSome, api.XEvery, api.XMany} {
				e := col("", "up.deep")
				depth := 23
				if multiKind == api.XMany {
					// Each XMany is within an OpNull.
					depth = 11
				}
				for i := depth - 1; i >= 0; i-- {
					e = multi(multiKind, names[i%len(names)], e)
					if multiKind == api.XMany {
						e = op(api.OpNull, e)
					}
				}
				f := api.Find{Entity: "b", Where: []api.Expr{e}, Order: orders("up.deep desc", "deep last"), Limit: -1, Tenant: 1}
				st, err := query.Compile(m, f, nil)
				must(t, err, sql.Check(s, st))
				x := api.Total{Entity: "b", Where: f.Where, Group: []string{"up.deep", "deep"}, Aggs: []api.Agg{agg(api.AggLeast, "up.deep")}, Having: []api.Expr{nested(23, col("", "agg0"))}, Tenant: 1}
				total, err := query.CompileTotal(m, x, nil)
				must(t, err, sql.Check(s, total))
				want, err := query.Answer(m, w, f, nil)
				if got := ask(t, s, d, st, nil, 3); !same(got, want) || err != api.OK {
					t.Error(kind, names, got, want)
				}
			}
		}
	}
}

// widest is a condition with so much weight, of which as much as possible is that of a part.
func widest(weight, each int, part api.Expr) api.Expr {
	return api.Expr{Kind: api.XIn, Args: append(many(1+(weight-2)%each, lit(boolean(1))), many((weight-2)/each, part)...)}
}

// P5.13, P5.16: finds and totals with MaxWeight are within the limits of statements.
func TestHeaviest(t *testing.T) {
	for _, kind := range deepKinds() {
		m := deepModel(t, kind)
		// Families as large as they can be, and formulas with as many parts.
		for i := range 13 {
			m.Entities = append(m.Entities, api.Entity{Name: "b" + strconv.Itoa(i), Parent: "b"})
		}
		m.Entities = append(m.Entities, api.Entity{Name: "c", Parent: "a"})
		long := api.Field{Name: "long", Kind: api.Bool, Formula: []api.Expr{{Kind: api.XIn, Args: many(399, col("", "x"))}}}
		m.Entities[0].Fields = append(m.Entities[0].Fields, long)
		s, err := schema.Tables(m)
		must(t, err)
		cheap := 1
		if strings.Contains(kind, "apart") {
			cheap = 2
		}
		for i, c := range []struct {
			each int
			part api.Expr
		}{
			{1 + cheap, multi(api.XSome, "all")}, {2, multi(api.XSome, "sym")}, {1 + cheap, multi(api.XSome, "to")}, {2 + cheap, multi(api.XEvery, "all", lit(null))}, {3, multi(api.XEvery, "sym", lit(null))}, {3, multi(api.XSome, "sym", api.Expr{Kind: api.XIs, Name: "b"})}, {1, api.Expr{Kind: api.XIs, Name: "b"}}, {2, api.Expr{Kind: api.XIs, Name: "b", Source: "up"}}, {2, col("", "up.x")}, {24 + 2, col("", "up.deep")}, {25, col("", "deep")}, {3, multi(api.XSome, "sym", lit(null))}, {1, lit(null)}, {6, multi(api.XSome, "up.up.up.sym", lit(null))}, {7, op(api.OpNull, col("", "up.up.up.up.up"))},
		} {
			f := api.Find{Entity: "a", Order: orders("up.long", "up.long desc", "up.long last", "up.up.up.long desc last"), Limit: -1, Tenant: 1}
			base, err := query.Weight(m, f)
			must(t, err)
			f.Where = []api.Expr{widest(api.MaxWeight-base, c.each, c.part)}
			if got, err := query.Weight(m, f); got != api.MaxWeight || err != api.OK {
				t.Error(kind, i, got, err)
			}
			st, err := query.Compile(m, f, nil)
			must(t, err, sql.Check(s, st))
			for dialect := api.DialectPlain; dialect <= api.DialectBracket; dialect++ {
				_, err := sql.Print(s, st, dialect)
				must(t, err)
			}
			x := api.Total{Entity: "b", Group: slices.Repeat([]string{"up.long"}, 4), Aggs: slices.Repeat([]api.Agg{agg(api.AggMost, "up.long")}, 6), Having: []api.Expr{{Kind: api.XIn, Args: many(399, col("", "agg5"))}}, Tenant: 1}
			x.Where = []api.Expr{widest(api.MaxWeight-20-cheap, c.each, c.part)}
			must(t, query.CheckTotal(m, x, nil))
			st, err = query.CompileTotal(m, x, nil)
			must(t, err, sql.Check(s, st))
			x.Where[0].Args = append(x.Where[0].Args, lit(null))
			if err := query.CheckTotal(m, x, nil); err != api.ErrLarge {
				t.Error(kind, i, err)
			}
		}
	}
}

// P5.13: the statement has the params of the find, also those that it does not name.
func TestParamsOfStatement(t *testing.T) {
	kinds := []int{api.Text, api.Int, api.Moment}
	st, err := query.Compile(zoo(t), api.Find{Entity: "tag", Where: conds(t, "equal(:id,?1)"), Limit: -1}, kinds)
	if err != api.OK || !slices.Equal(st.Params, kinds) || st.Kind != api.StSelect {
		t.Error(st, err)
	}
	st, err = query.CompileTotal(zoo(t), api.Total{Entity: "tag", Aggs: []api.Agg{agg(api.AggRows, "")}, Having: conds(t, "equal(:agg0,?1)")}, kinds)
	if err != api.OK || !slices.Equal(st.Params, kinds) || st.Kind != api.StSelect {
		t.Error(st, err)
	}
}

// P5.13: an object is found by its key.
func TestPlan(t *testing.T) {
	s, _ := tables(t, zoo(t), zooWorld(t))
	for _, c := range []struct {
		f    api.Find
		want string
	}{
		{api.Find{Entity: "tag", Where: conds(t, "equal(:id,?0)"), Limit: -1}, "key s1 tag\n"},
		{api.Find{Entity: "worker", Where: conds(t, "and(equal(5,:id),null(:mate.name))"), Limit: -1}, "key s1 person\nscan s2 person\n"},
		// The tables in which a dog stands, those in which only a puppy does, and where a path leads.
		{api.Find{Entity: "dog", Order: orders("rival.name"), Limit: -1}, "scan s1 dog\nscan s2 pet\nscan s3 puppy\nscan s4 pet\n"},
		// A path is followed once, a reference alone only if its object must be seen.
		{api.Find{Entity: "person", Where: conds(t, "equal(:mate.mate.name,concat(:mate.mate.tall,:mate.name))"), Order: orders("mate.age", "mate"), Limit: -1}, "scan s1 person\nscan s2 person\nscan s3 person\n"},
		{api.Find{Entity: "person", Where: conds(t, "null(:mate)"), Limit: -1}, "scan s1 person\nscan s2 person\n"},
		{api.Find{Entity: "person", Where: conds(t, "null(:mate)"), Limit: -1, Gone: true}, "scan s1 person\n"},
		{api.Find{Entity: "pet", Where: conds(t, "null(:owner)"), Limit: -1, Gone: true}, "scan s1 pet\nscan s2 dog\nscan s3 cat\nscan s4 puppy\n"},
	} {
		st, err := query.Compile(zoo(t), c.f, []int{api.Int})
		must(t, err)
		if got, err := sql.Explain(s, st); got != c.want || err != api.OK {
			t.Error(got, err)
		}
	}
}

// P5.16: a total reads the tables in which objects of its entity stand, not those of entities below.
func TestTablesOfTotals(t *testing.T) {
	st, err := query.CompileTotal(zoo(t), api.Total{Entity: "dog", Group: []string{"nick"}, Aggs: []api.Agg{agg(api.AggRows, "")}}, nil)
	must(t, err)
	if got := sql.Tables(st); !same(got, []string{"dog", "pet"}) {
		t.Error(got)
	}
}

// P5.13: columns and tables have the names that package schema gives them.
func TestNamesOfColumns(t *testing.T) {
	randomly(t, 200, func(t *testing.T, r *maker) {
		s, err := schema.Tables(r.m)
		must(t, err)
		for _, e := range r.m.Entities {
			f := api.Find{Entity: e.Name, Limit: -1}
			st, err := query.Compile(r.m, f, nil)
			must(t, err, sql.Check(s, st))
			home := map[string]string{}
			sql.Sources(st, func(x api.Source) { home[x.Name] = x.Table })
			for i, slot := range naiveColumns(r.m, e.Name) {
				table, column, err := schema.Column(r.m, slot.Entity, slot.Name)
				must(t, err)
				x := st.Select[0].Items[5+i].Expr
				if home[x.Source] != table || x.Name != column {
					t.Error(x, home[x.Source], table, column)
				}
			}
		}
	})
}
