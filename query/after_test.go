package query_test

import (
	"slices"
	"strings"
	"testing"

	"dumbwaiter/api"
	"dumbwaiter/query"
	"dumbwaiter/schema"
	"dumbwaiter/value"
)

// comesBehind reports whether a row of an answer comes behind another one by an order, of whose paths it has the values.
func comesBehind(m api.Model, f api.Find, a, b []api.Value) bool {
	places := map[string]int{"tenant": 1, "id": 2, "version": 3, "gone": 4}
	for i, s := range naiveColumns(m, f.Entity) {
		places[s.Name] = 5 + i
	}
	for _, o := range append(slices.Clone(f.Order), by("tenant"), by("id")) {
		x, y := a[places[o.Path]], b[places[o.Path]]
		switch {
		case x == y:
			continue
		case x == null || y == null:
			return o.Last == (x == null)
		case o.Desc:
			return value.Compare(x, y) < 0
		}
		return value.Compare(x, y) > 0
	}
	return false
}

// P5.14: After has the rows that come behind, also behind rows that are of no answer; compiled, too.
func TestRandomAfter(t *testing.T) {
	behind := 0
	randomly(t, 500, func(t *testing.T, r *maker) {
		w := r.world(8)
		s, d := tables(t, r.m, w)
		for range 4 {
			f := r.find()
			f.Where, f.Limit, f.Offset = nil, -1, 0
			if r.chance(2) {
				f.Where = []api.Expr{withoutParams(r.condition(api.Bool, 1, at{f.Entity, ""}))}
			}
			f.Order = nil
			slots := naiveColumns(r.m, f.Entity)
			own, _ := schema.Slots(r.m, f.Entity)
			paths := []string{"id"}
			for _, x := range own {
				if x.Kind != 0 {
					paths = append(paths, x.Name)
				}
			}
			root := rootOf(r.m, f.Entity)
			for name, is := range map[string]bool{"tenant": root.Tenant, "version": root.Version, "gone": root.Soft} {
				if is {
					paths = append(paths, name)
				}
			}
			slices.Sort(paths)
			for range r.Intn(5) {
				f.Order = append(f.Order, api.By{Path: paths[r.Intn(len(paths))], Desc: r.chance(2), Last: r.chance(2)})
			}
			all := naiveAnswer(r.m, w, f, nil)
			if len(all) == 0 {
				continue
			}
			edge := slices.Clone(all[r.Intn(len(all))])
			if r.chance(3) {
				edge = r.otherRow(edge, own, slots)
			}
			var want [][]api.Value
			for _, x := range all {
				if comesBehind(r.m, f, x, edge) {
					want = append(want, x)
				}
			}
			behind += len(want)
			f.Limit, f.Offset = r.Intn(5)-1, r.Intn(3)
			if f.Limit >= 0 && f.Limit < len(want) {
				want = want[:f.Limit]
			}
			g, err := query.After(r.m, f, edge)
			if err == api.ErrLarge {
				continue
			}
			must(t, err)
			if g.Entity != f.Entity || !same(g.Order, f.Order) || g.Gone != f.Gone || g.Tenant != f.Tenant || g.Limit != f.Limit || g.Offset != 0 {
				t.Error(f, g)
			}
			rows, err := query.Answer(r.m, w, g, nil)
			if err != api.OK || !same(rows, want) {
				t.Error(f, edge, rows, want, err)
			}
			st, err := query.Compile(r.m, g, nil)
			must(t, err)
			if rows := ask(t, s, d, st, nil, r.Intn(4)); !same(rows, want) {
				t.Error(f, edge, "compiled", rows, want)
			}
		}
	})
	if behind < 100 {
		t.Error(behind)
	}
}

// otherRow is a row with some other values.
func (r *maker) otherRow(edge []api.Value, own, slots []api.Slot) []api.Value {
	for i, s := range slots {
		if slices.Contains(own, s) && s.Kind != 0 && r.chance(2) {
			edge[5+i] = r.valueOrNull(s.Kind)
		}
	}
	edge[2] = integer(1 + r.Intn(40))
	return edge
}

// withoutParams is a condition with null in the place of parameters.
func withoutParams(e api.Expr) api.Expr {
	if e.Kind == api.XParam {
		return lit(null)
	}
	e = clone(e)
	for i, arg := range e.Args {
		e.Args[i] = withoutParams(arg)
	}
	return e
}

// edge is the row of Ann.
func edge() []api.Value {
	return row(text("person"), null, integer(1), integer(1), null, text("ann"), integer(30), text("ulm"), null, integer(2), null, null, null)
}

// P5.14: errors of After in their order.
func TestAfterErrors(t *testing.T) {
	type args struct {
		F   api.Find
		Row []api.Value
	}
	order := func(l ...string) func(x *args) {
		return func(x *args) { x.F.Order = orders(l...) }
	}
	tryFaults(t, args{api.Find{Entity: "person", Where: conds(t, "null(:mate.age)"), Order: orders("age", "home.city desc last", "gone", "version"), Limit: 3, Offset: 2, Include: []string{"pets"}}, edge()}, func(x args) api.Errno {
		got, err := query.After(zoo(t), x.F, x.Row)
		if err != api.OK && !same(got, api.Find{}) {
			t.Error(got)
		}
		return err
	}, []fault[args]{
		{"find", func(x *args) { x.F.Entity = "owl" }, api.ErrName},
		{"find", func(x *args) { x.F.Where = conds(t, "?0") }, api.ErrArg},
		{"find", func(x *args) { x.F.Limit = -2 }, api.ErrArg},
		{"find", func(x *args) { x.F.Where = []api.Expr{{Kind: api.XIn, Args: many(210, lit(null))}} }, api.ErrLarge},
		{"row", func(x *args) { x.Row = nil }, api.ErrForm},
		{"row", func(x *args) { x.Row[0] = text("tag") }, api.ErrName},
		{"row", func(x *args) { x.Row[12] = integer(1) }, api.ErrType},
		{"row", func(x *args) { x.Row[2] = null }, api.ErrNull},
		{"row", func(x *args) { x.Row[3] = integer(0) }, api.ErrArg},
		{"order", order("name", "mate"), api.ErrForm},
		{"order", order("mate.name"), api.ErrForm},
		{"order", order("adult"), api.ErrForm},
		{"deep", func(x *args) { x.F.Where = []api.Expr{nested(8, lit(null))} }, api.ErrLarge},
		{"heavy", func(x *args) { x.F.Where = []api.Expr{{Kind: api.XIn, Args: many(120, lit(null))}} }, api.ErrLarge},
	})
	if _, err := query.After(zoo(t), api.Find{Entity: "worker", Order: orders("pay", "since")}, edge()); err != api.ErrName {
		t.Error(err)
	}
	bad := zoo(t)
	bad.Entities[0].Version = false
	if _, err := query.After(bad, api.Find{Entity: "person"}, edge()); err != api.ErrType {
		t.Error(err)
	}
}

// P5.14: the bounds, at which Check still accepts the result.
func TestAfterBounds(t *testing.T) {
	for k := range 5 {
		f := api.Find{Entity: "person", Order: slices.Repeat(orders("home.city desc last"), k), Limit: -1}
		added := 20 * (k + 2)
		for over := range 2 {
			// 8 columns, 1 table and the XIn itself count, too.
			f.Where = []api.Expr{{Kind: api.XIn, Args: many(api.MaxWeight-added-10+over, lit(null))}}
			g, err := query.After(zoo(t), f, edge())
			if over == 1 {
				if err != api.ErrLarge {
					t.Error(k, err)
				}
				continue
			}
			must(t, err, query.Check(zoo(t), g, nil))
			if _, err := query.Answer(zoo(t), zooWorld(t), g, nil); err != api.OK {
				t.Error(err)
			}
		}
		f.Where = []api.Expr{nested(7, lit(null))}
		g, err := query.After(zoo(t), f, edge())
		must(t, err, query.Check(zoo(t), g, nil))
		f.Where = []api.Expr{nested(8, lit(null))}
		if _, err := query.After(zoo(t), f, edge()); err != api.ErrLarge {
			t.Error(k, err)
		}
	}
}

// P5.14: what the row of an answer has only counts for the order.
func TestAfterWalk(t *testing.T) {
	f := api.Find{Entity: "pet", Order: orders("name desc last"), Limit: 1, Gone: true}
	var names []string
	for range 9 {
		rows, err := query.Answer(zoo(t), zooWorld(t), f, nil)
		must(t, err)
		if len(rows) == 0 {
			break
		}
		names = append(names, rows[0][5].S)
		f.Where = nil
		f, err = query.After(zoo(t), f, rows[0])
		must(t, err)
	}
	if got := strings.Join(names, " "); got != "tom rex odd kit hen " {
		t.Error(got)
	}
}
