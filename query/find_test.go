package query_test

import (
	"slices"
	"strconv"
	"strings"
	"testing"

	"dumbwaiter/api"
	"dumbwaiter/query"
)

// by is an element of an order, written as in texts.
func by(s string) api.By {
	path, flags, _ := strings.Cut(s, " ")
	return api.By{Path: path, Desc: strings.Contains(flags, "desc"), Last: strings.Contains(flags, "last")}
}

// orders are several elements of an order.
func orders(l ...string) []api.By {
	var out []api.By
	for _, s := range l {
		out = append(out, by(s))
	}
	return out
}

// P5.9: the order, Offset and Limit.
func TestOrder(t *testing.T) {
	for _, c := range []struct {
		entity        string
		order         []api.By
		limit, offset int
		gone          bool
		tenant        int
		want          []int
	}{
		{"person", nil, -1, 0, false, 0, []int{1, 2, 4}}, {"person", nil, -1, 0, true, 0, []int{1, 2, 3, 4}}, {"worker", nil, -1, 0, true, 0, []int{2, 4}}, {"tag", nil, -1, 0, false, 2, []int{1, 2}},
		{"pet", nil, -1, 0, true, 0, []int{1, 2, 3, 4, 1, 5}}, {"pet", nil, -1, 0, true, 2, []int{1, 5}}, {"pet", nil, -1, 0, false, 0, []int{1, 2, 4, 5}}, {"dog", nil, -1, 0, true, 0, []int{1, 2, 1}}, {"pet", nil, -1, 0, false, 3, nil}, {"pet", nil, -1, 0, false, api.MaxInt, nil},
		{"person", orders("age"), -1, 0, false, 0, []int{2, 4, 1}}, {"person", orders("age desc"), -1, 0, false, 0, []int{2, 1, 4}}, {"person", orders("age last"), -1, 0, false, 0, []int{4, 1, 2}}, {"person", orders("age desc last"), -1, 0, false, 0, []int{1, 4, 2}},
		{"person", orders("mate.age"), -1, 0, false, 0, []int{1, 2, 4}}, {"person", orders("mate.age last"), -1, 0, true, 0, []int{4, 3, 1, 2}}, {"person", orders("mate last"), -1, 0, true, 0, []int{3, 1, 4, 2}}, {"person", orders("mate last"), -1, 0, false, 0, []int{1, 2, 4}},
		{"person", orders("adult", "name desc"), -1, 0, false, 0, []int{2, 4, 1}}, {"pet", orders("owner desc"), -1, 0, false, 0, []int{4, 5, 1, 2}}, {"pet", orders("owner"), -1, 0, true, 0, []int{1, 2, 3, 1, 5, 4}}, {"pet", orders("owner.name desc last", "id desc"), -1, 0, false, 0, []int{5, 2, 1, 4}}, {"pet", orders("tenant desc"), -1, 0, true, 0, []int{1, 5, 1, 2, 3, 4}}, {"pet", orders("gone last"), -1, 0, true, 0, []int{3, 1, 1, 2, 4, 5}}, {"person", orders("version desc"), -1, 0, false, 0, []int{2, 1, 4}},
		{"person", nil, 2, 0, false, 0, []int{1, 2}}, {"person", nil, 0, 0, false, 0, nil}, {"person", nil, -1, 2, false, 0, []int{4}}, {"person", nil, 1, 1, false, 0, []int{2}}, {"person", nil, 5, 3, false, 0, nil}, {"person", nil, api.MaxInt, api.MaxInt, false, 0, nil},
	} {
		f := api.Find{Entity: c.entity, Order: c.order, Limit: c.limit, Offset: c.offset, Gone: c.gone, Tenant: c.tenant}
		if got := idsOf(t, f); !same(got, c.want) {
			t.Error(c, got)
		}
	}
}

// P5.10: errors of finds in their order, also of Compile, Objects and Answer.
func TestCheckFind(t *testing.T) {
	type args struct {
		F      api.Find
		Params []int
	}
	where := func(s string) func(x *args) {
		return func(x *args) { x.F.Where = conds(t, s) }
	}
	paths := func(l ...string) func(x *args) {
		return func(x *args) { x.F.Order = orders(l...) }
	}
	base := args{api.Find{Entity: "person", Where: conds(t, "or(?0,equal(:age,1))"), Order: orders("name", "mate.mate.mate.mate.mate"), Limit: -1, Include: []string{"pets"}}, []int{api.Bool}}
	tryFaults(t, base, func(x args) api.Errno {
		err := query.Check(zoo(t), x.F, x.Params)
		st, e := query.Compile(zoo(t), x.F, x.Params)
		if e != err || err != api.OK && !same(st, api.Statement{}) {
			t.Error(st, e, err)
		}
		if len(x.Params) == 1 && x.Params[0] != 0 {
			params := row([]api.Value{null, boolean(1), integer(1), text(""), moment(0)}[x.Params[0]])
			refs, e1 := query.Objects(zoo(t), zooWorld(t), x.F, params)
			rows, e2 := query.Answer(zoo(t), zooWorld(t), x.F, params)
			if e1 != err || e2 != err || err != api.OK && len(refs)+len(rows) > 0 {
				t.Error(e1, e2, err)
			}
		}
		return err
	}, []fault[args]{
		{"entity", func(x *args) { x.F.Entity = "owl" }, api.ErrName},
		{"where", func(x *args) { x.F.Where = many(2, lit(null)) }, api.ErrForm},
		{"params", func(x *args) { x.Params = []int{0} }, api.ErrKind},
		{"where", func(x *args) { x.F.Where = []api.Expr{nested(24, lit(null))} }, api.ErrLarge},
		{"where", where("equal(:pay,1)"), api.ErrName},
		{"where", where("?1"), api.ErrArg},
		{"params", func(x *args) { x.Params = []int{api.Text} }, api.ErrType},
		{"where", where(":age"), api.ErrType},
		{"order", paths("x", "x", "x", "x", "x"), api.ErrLarge},
		{"order", paths("name", "mate.mate.mate.mate.mate.x", "x"), api.ErrLarge},
		{"order", paths("name", "x", "mate.mate.mate.mate.mate.x"), api.ErrName},
		{"numbers", func(x *args) { x.F.Limit = -2 }, api.ErrArg},
		{"numbers", func(x *args) { x.F.Limit = api.MaxInt + 1 }, api.ErrArg},
		{"numbers", func(x *args) { x.F.Offset = -1 }, api.ErrArg},
		{"numbers", func(x *args) { x.F.Offset = api.MaxInt + 1 }, api.ErrArg},
		{"numbers", func(x *args) { x.F.Tenant = -1 }, api.ErrArg},
		{"numbers", func(x *args) { x.F.Tenant = api.MaxInt + 1 }, api.ErrArg},
		{"include", func(x *args) { x.F.Include = []string{"pets", "x", "x.x.x.x.x"} }, api.ErrName},
	})
	for _, f := range []api.Find{{Entity: "person", Limit: api.MaxInt, Offset: api.MaxInt, Tenant: api.MaxInt}, {Entity: "tag", Limit: 0, Tenant: 3}, {Entity: "person", Where: conds(t, "null")}, {Entity: "person", Order: orders("id", "id", "id", "id")}} {
		if err := query.Check(zoo(t), f, nil); err != api.OK {
			t.Error(f, err)
		}
	}
}

// P5.12: values of parameters must be right, ahead of all else of a find.
func TestParamsOfFinds(t *testing.T) {
	for _, v := range []api.Value{{Kind: 5}, {Kind: -1}, {N: 1}, {S: "x"}, boolean(2), integer(api.MaxInt + 1), text(long(101)), text("\n"), moment(-1), {Kind: api.Int, S: "x"}} {
		f := api.Find{Entity: "owl"}
		_, e1 := query.Objects(zoo(t), zooWorld(t), f, row(null, v))
		_, e2 := query.Answer(zoo(t), zooWorld(t), f, row(null, v))
		_, e3 := query.Totals(zoo(t), zooWorld(t), api.Total{Entity: "owl"}, row(null, v))
		if e1 != api.ErrForm || e2 != api.ErrForm || e3 != api.ErrForm {
			t.Error(v, e1, e2, e3)
		}
	}
}

// P5.10, P5.12: Columns has at most MaxWidth elements for a find.
func TestWidth(t *testing.T) {
	wide := func(n int) api.Model {
		m := model(t, "entity a apart", "one back a clear", "entity b of a", "entity c of b", "entity d of c", "entity e of d", "entity f of e", "entity g")
		for i := range n - 1 {
			place := i / 12
			m.Entities[place].Fields = append(m.Entities[place].Fields, api.Field{Name: "f" + strconv.Itoa(i), Kind: api.Int, Null: true})
		}
		return m
	}
	for _, c := range []struct {
		n      int
		entity string
		want   api.Errno
	}{{60, "a", api.OK}, {61, "a", api.ErrLarge}, {61, "b", api.ErrLarge}, {61, "f", api.ErrLarge}, {61, "g", api.OK}} {
		l, err := query.Columns(wide(c.n), c.entity)
		if c.entity != "g" && (len(l) != c.n || err != api.OK) {
			t.Error(c, l, err)
		}
		if err := query.Check(wide(c.n), api.Find{Entity: c.entity}, nil); err != c.want {
			t.Error(c, err)
		}
		if _, err := query.Weight(wide(c.n), api.Find{Entity: c.entity}); err != c.want {
			t.Error(c, err)
		}
		if err := query.Check(wide(c.n), api.Find{Entity: c.entity, Include: []string{"x"}}, nil); err != api.ErrName {
			t.Error(c, err)
		}
		if err := query.CheckTotal(wide(c.n), api.Total{Entity: c.entity, Aggs: []api.Agg{{Op: api.AggRows}}}, nil); err != api.OK {
			t.Error(c, err)
		}
	}
}

// P5.11: the weight.
func TestWeight(t *testing.T) {
	for _, c := range []struct {
		f    api.Find
		want int
	}{
		// Columns and tables: person and worker have one table.
		{api.Find{Entity: "tag"}, 1 + 1}, {api.Find{Entity: "person"}, 8 + 1}, {api.Find{Entity: "worker"}, 8 + 1},
		// The pets have four, of which a puppy stands in three, and a dog, with those below it, too.
		{api.Find{Entity: "pet"}, 7 + 4}, {api.Find{Entity: "dog"}, 5 + 3}, {api.Find{Entity: "puppy"}, 5 + 3}, {api.Find{Entity: "cat"}, 4 + 2},
		{api.Find{Entity: "tag", Where: conds(t, "true")}, 2 + 1}, {api.Find{Entity: "tag", Where: conds(t, "and(null(:id),not(null))")}, 2 + 5},
		{api.Find{Entity: "person", Where: conds(t, "null(:mate)")}, 9 + 2 + 1}, {api.Find{Entity: "person", Where: conds(t, "null(:mate.mate.mate)")}, 9 + 2 + 3}, {api.Find{Entity: "person", Where: conds(t, "null(:mate.mate.name)")}, 9 + 2 + 2},
		// The formula of adult has three parts, that of nick three.
		{api.Find{Entity: "person", Where: conds(t, ":adult")}, 9 + 1 + 3}, {api.Find{Entity: "person", Where: conds(t, "and(:adult,:mate.adult)")}, 9 + 3 + 3 + 3 + 1}, {api.Find{Entity: "cat", Where: conds(t, "null(:fears.nick)")}, 6 + 2 + 2 + 3},
		// pets leads to one table, dogs to two.
		{api.Find{Entity: "person", Where: conds(t, "some:pets()")}, 9 + 1 + 1}, {api.Find{Entity: "person", Where: conds(t, "some:dogs()")}, 9 + 1 + 2}, {api.Find{Entity: "person", Where: conds(t, "every:mate.dogs(null(:owner.mate))")}, 9 + 3 + 3 + 2},
		{api.Find{Entity: "dog", Where: conds(t, "equal(many:hunts(null(up:rival)),1)")}, 8 + 5 + 2 + 1}, {api.Find{Entity: "pet", Where: conds(t, "some:likes(some:liked())")}, 11 + 2 + 2}, {api.Find{Entity: "person", Where: conds(t, "some:tags()")}, 9 + 1 + 1},
		{api.Find{Entity: "cat", Where: conds(t, "is:puppy(:fears.rival)")}, 6 + 1 + 3}, {api.Find{Entity: "pet", Where: conds(t, "is:puppy()")}, 11 + 1},
		// Of an order the relations alone count.
		{api.Find{Entity: "cat", Order: orders("fears", "fears.nick", "lives", "owner.adult")}, 6 + 2 + 2 + 1}, {api.Find{Entity: "cat", Include: []string{"fears.hunts", "owner"}}, 6},
	} {
		if got, err := query.Weight(zoo(t), c.f); got != c.want || err != api.OK {
			t.Error(c, got, err)
		}
	}
	if got, err := query.Weight(zoo(t), api.Find{Entity: "tag", Limit: -2}); got != 0 || err != api.ErrArg {
		t.Error(got, err)
	}
	if got, err := query.Weight(zoo(t), api.Find{Entity: "tag", Where: conds(t, "?0")}); got != 0 || err != api.ErrArg {
		t.Error(got, err)
	}
}

// P5.10, P5.11: a find with more than MaxWeight has a weight, but an error.
func TestMaxWeight(t *testing.T) {
	for n, want := range map[int]api.Errno{api.MaxWeight: api.OK, api.MaxWeight + 1: api.ErrLarge, 390: api.ErrLarge} {
		f := api.Find{Entity: "tag", Where: []api.Expr{{Kind: api.XIn, Args: many(n-3, lit(null))}}, Limit: -1}
		got, err := query.Weight(zoo(t), f)
		if got != n || err != api.OK {
			t.Error(n, got, err)
		}
		if err := query.Check(zoo(t), f, nil); err != want {
			t.Error(n, err)
		}
		if _, err := query.Answer(zoo(t), zooWorld(t), f, nil); err != want {
			t.Error(n, err)
		}
	}
}

// P5.12: the slots of answers.
func TestColumns(t *testing.T) {
	names := func(entity string) []string {
		l, err := query.Columns(zoo(t), entity)
		must(t, err)
		var out []string
		for _, s := range l {
			out = append(out, s.Entity+" "+s.Name)
		}
		return out
	}
	for entity, want := range map[string][]string{
		"tag":    {"tag label"},
		"person": {"person name", "person age", "person home.city", "person home.zip", "person mate", "worker pay", "worker since", "worker boss"},
		"worker": {"person name", "person age", "person home.city", "person home.zip", "worker pay", "worker since", "person mate", "worker boss"},
		"pet":    {"pet name", "pet owner", "dog good", "dog rival", "cat lives", "cat fears", "puppy weeks"},
		"dog":    {"pet name", "dog good", "pet owner", "dog rival", "puppy weeks"},
		"puppy":  {"pet name", "dog good", "puppy weeks", "pet owner", "dog rival"},
	} {
		if got := names(entity); !same(got, want) {
			t.Error(entity, got)
		}
	}
	if l, err := query.Columns(zoo(t), "owl"); len(l) > 0 || err != api.ErrName {
		t.Error(l, err)
	}
	l, _ := query.Columns(zoo(t), "pet")
	if l[3] != (api.Slot{Name: "rival", Entity: "dog", To: "pet", Null: true}) || l[4] != (api.Slot{Name: "lives", Entity: "cat", Kind: api.Int}) {
		t.Error(l)
	}
}

// P5.12: rows say what is stored, also references to objects that are not seen.
func TestAnswer(t *testing.T) {
	rows := func(f api.Find) [][]api.Value {
		l, err := query.Answer(zoo(t), zooWorld(t), f, nil)
		must(t, err)
		return l
	}
	want := [][]api.Value{
		row(text("dog"), integer(1), integer(1), null, null, text("rex"), integer(1), boolean(1), integer(3), null, null, null),
		row(text("puppy"), integer(1), integer(2), null, null, null, integer(1), boolean(0), null, null, null, integer(6)),
		row(text("pet"), integer(1), integer(4), null, null, text("hen"), integer(3), null, null, null, null, null),
		row(text("cat"), integer(2), integer(5), null, null, text("kit"), integer(2), null, null, integer(3), integer(1), null),
	}
	if got := rows(api.Find{Entity: "pet", Limit: -1}); !same(got, want) {
		t.Error(got)
	}
	if got := rows(api.Find{Entity: "pet", Where: conds(t, "null(:owner)"), Limit: -1}); !same(got, want[2:3]) {
		t.Error(got)
	}
	if got := rows(api.Find{Entity: "person", Where: conds(t, "not(null(:gone))"), Gone: true, Limit: -1}); !same(got, [][]api.Value{row(text("person"), null, integer(3), integer(1), moment(60), text("eve"), integer(12), null, null, integer(1), null, null, null)}) {
		t.Error(got)
	}
}

// P5.12: Object is what Answer has told.
func TestObject(t *testing.T) {
	for _, entity := range []string{"person", "worker", "pet", "dog", "cat", "puppy", "tag"} {
		f := api.Find{Entity: entity, Gone: true, Limit: -1}
		rows, err := query.Answer(zoo(t), zooWorld(t), f, nil)
		refs, e := query.Objects(zoo(t), zooWorld(t), f, nil)
		must(t, err, e)
		for i, r := range rows {
			want := slices.IndexFunc(zooWorld(t).Objects, func(o api.Object) bool { return ref(o.Entity, o.Tenant, o.ID) == refs[i] })
			if got, err := query.Object(zoo(t), entity, r); !same(got, zooWorld(t).Objects[want]) || err != api.OK {
				t.Error(r, got, err)
			}
		}
	}
}

// P5.12: errors of rows.
func TestObjectOfRow(t *testing.T) {
	type args struct {
		Entity string
		Row    []api.Value
	}
	check := func(x args) api.Errno {
		got, err := query.Object(zoo(t), x.Entity, x.Row)
		if err != api.OK && !same(got, api.Object{}) {
			t.Error(got)
		}
		return err
	}
	set := func(i int, v api.Value) func(x *args) { return func(x *args) { x.Row[i] = v } }
	tryFaults(t, args{"pet", row(text("dog"), integer(1), integer(1), null, null, text("rex"), integer(1), boolean(1), null, null, null, null)}, check, []fault[args]{
		{"entity", func(x *args) { x.Entity = "owl" }, api.ErrName},
		{"first", func(x *args) { x.Row[0] = text("person") }, api.ErrName},
		{"first", func(x *args) { x.Row[0] = text("owl") }, api.ErrName},
		{"first", func(x *args) { x.Row[0] = null }, api.ErrName},
		{"first", func(x *args) { x.Row[0] = api.Value{Kind: api.Int, S: "dog"} }, api.ErrName},
		{"first", func(x *args) { x.Row[0] = api.Value{Kind: api.Text, S: "dog", N: 1} }, api.ErrName},
		{"value", set(5, integer(1)), api.ErrType}, {"value", set(5, text("\n")), api.ErrType}, {"value", set(5, api.Value{N: 1}), api.ErrType}, {"value", set(6, text("1")), api.ErrType}, {"value", set(6, integer(api.MaxInt+1)), api.ErrType}, {"value", set(4, integer(1)), api.ErrType}, {"value", set(9, integer(1)), api.ErrType}, {"value", set(11, integer(1)), api.ErrType}, {"value", set(3, integer(1)), api.ErrType}, {"value", set(3, integer(0)), api.ErrType}, {"value", set(2, text("1")), api.ErrType}, {"value", set(1, boolean(1)), api.ErrType},
		{"id", set(2, null), api.ErrNull}, {"tenant", set(1, null), api.ErrNull},
		{"id", set(2, integer(0)), api.ErrArg}, {"tenant", set(1, integer(-1)), api.ErrArg},
	})
	for _, r := range [][]api.Value{nil, make([]api.Value, 11), make([]api.Value, 13)} {
		if err := check(args{"pet", r}); err != api.ErrForm {
			t.Error(r, err)
		}
	}
	ann := row(text("person"), null, integer(1), integer(1), null, text("ann"), null, null, null, null, null, null, null)
	tryFaults(t, args{"person", ann}, check, []fault[args]{
		{"tenant", set(1, integer(1)), api.ErrType}, {"pay", set(10, integer(1)), api.ErrType}, {"version", set(3, null), api.ErrNull}, {"version", set(3, integer(0)), api.ErrArg},
	})
	// Nulls, and references to nothing, are not asked.
	ann[5], ann[9] = null, integer(-5)
	if got, err := query.Object(zoo(t), "person", ann); !same(got, api.Object{Entity: "person", ID: 1, Version: 1, Values: make([]api.Value, 4), Ones: []int{-5}}) || err != api.OK {
		t.Error(got, err)
	}
	if err := check(args{"worker", ann}); err != api.ErrName {
		t.Error(err)
	}
}
