package shards_test

import (
	"slices"
	"strconv"
	"testing"

	"dumbwaiter/api"
	"dumbwaiter/schema"
	"dumbwaiter/shards"
)

// zoo is a model with all that objects can be made of.
func zoo(t testing.TB) api.Model {
	t.Helper()
	return model(t,
		"embed place", "field city text default 'rome'", "field zip int null",
		"entity person version soft", "field name text default 'nn'", "field size text default 's' texts 's' 'l'", "field home embed place", "one boss worker clear",
		"entity worker of person", "field pay int default 5", "one mate person clear",
		"entity note apart version tenant", "field body text", "field loud text = upper(:body)", "one owner person need refuse", "one reply note clear", "unique body owner",
		"entity memo of note", "field due moment null", "field done bool default false",
	)
}

// people is a world of the zoo.
func people() api.World {
	return api.World{Objects: []api.Object{
		{Entity: "person", ID: 1, Version: 3, Values: row(text("Ann"), text("l"), text("x"), null), Ones: []int{4}},
		{Entity: "worker", ID: 4, Version: 1, Gone: moment(5), Values: row(text("Bob"), text("l"), text("x"), integer(1), integer(7)), Ones: []int{0, 1}},
		{Entity: "note", Tenant: 2, ID: 7, Version: 2, Values: row(text("b")), Ones: []int{1, 0}},
	}}
}

// given fixtures: a person, a memo of the tenant 2, a worker, and a note of the tenant 1.
func loaded() []api.Fixture {
	return []api.Fixture{
		{Label: "ada", Entity: "person", Values: []api.FixtureValue{{Slot: "home.zip", Value: integer(9)}, {Slot: "name", Value: text("Ada")}}, Ones: []api.FixtureOne{{Relation: "boss", Label: "will"}}},
		{Label: "m", Entity: "memo", Tenant: 2, Values: []api.FixtureValue{{Slot: "body", Value: text("m")}, {Slot: "due", Value: moment(6)}}, Ones: []api.FixtureOne{{Relation: "reply", Label: "m"}, {Relation: "owner", Label: "will"}}},
		{Label: "will", Entity: "worker", Ones: []api.FixtureOne{{Relation: "mate", Label: "ada"}}},
		{Label: "n", Entity: "note", Tenant: 1, Values: []api.FixtureValue{{Slot: "body", Value: text("n")}}, Ones: []api.FixtureOne{{Relation: "owner", Label: "ada"}}},
	}
}

// P9.14: what fixtures become.
func TestLoad(t *testing.T) {
	m := zoo(t)
	w, refs, err := shards.Load(m, people(), loaded())
	must(t, err)
	expect(t, refs, []api.Ref{{Entity: "person", ID: 5}, {Entity: "memo", Tenant: 2, ID: 8}, {Entity: "worker", ID: 6}, {Entity: "note", Tenant: 1, ID: 1}})
	p := people().Objects
	expect(t, w, api.World{Objects: []api.Object{
		p[0], p[1],
		{Entity: "person", ID: 5, Version: 1, Values: row(text("Ada"), text("s"), text("rome"), integer(9)), Ones: []int{6}},
		{Entity: "worker", ID: 6, Version: 1, Values: row(text("nn"), text("s"), text("rome"), null, integer(5)), Ones: []int{0, 5}},
		{Entity: "note", Tenant: 1, ID: 1, Version: 1, Values: row(text("n")), Ones: []int{5, 0}},
		p[2],
		{Entity: "memo", Tenant: 2, ID: 8, Version: 1, Values: row(text("m"), moment(6), api.Value{Kind: api.Bool}), Ones: []int{6, 8}},
	}})
	w, refs, err = shards.Load(m, people(), nil)
	must(t, err)
	expect(t, w, people())
	expect(t, len(refs), 0)
	// Families without versions have none; pairs stay.
	plain := model(t, "entity a", "field x int null", "pairs p a")
	w = api.World{Objects: []api.Object{{Entity: "a", ID: 3, Values: row(null)}}, Pairs: []api.PairOf{{Entity: "a", Relation: "p", Left: 3, Right: 3}}}
	w, _, err = shards.Load(plain, w, []api.Fixture{{Label: "", Entity: "a"}, {Label: "A b", Entity: "a"}})
	must(t, err)
	expect(t, w, api.World{Objects: []api.Object{{Entity: "a", ID: 3, Values: row(null)}, {Entity: "a", ID: 4, Values: row(null)}, {Entity: "a", ID: 5, Values: row(null)}}, Pairs: []api.PairOf{{Entity: "a", Relation: "p", Left: 3, Right: 3}}})
}

// load is the arguments of Load.
type load struct {
	M api.Model
	W api.World
	L []api.Fixture
}

// P9.14: errors of Load, in their order.
func TestLoadErrors(t *testing.T) {
	try := func(x load) api.Errno {
		w, refs, err := shards.Load(x.M, x.W, x.L)
		if err != api.OK {
			expect(t, w, api.World{})
			expect(t, refs, []api.Ref(nil))
		}
		return err
	}
	value := func(i, k int, v api.Value) func(x *load) { return func(x *load) { x.L[i].Values[k].Value = v } }
	tryFaults(t, load{zoo(t), people(), loaded()}, try, []fault[load]{
		{"model", func(x *load) { x.M.Entities[0].Name = "" }, api.ErrName},
		{"world", func(x *load) { x.W.Objects[0].ID = 5 }, api.ErrOrder},
		{"world", func(x *load) { x.W.Objects[0].Ones[0] = 9 }, api.ErrRef},
		{"0 entity", func(x *load) { x.L[0].Entity = "none" }, api.ErrName},
		{"0 tenant", func(x *load) { x.L[0].Tenant = 1 }, api.ErrTenant},
		{"0 tenant", func(x *load) { x.L[0].Tenant = -1 }, api.ErrTenant},
		{"0 value 0", func(x *load) { x.L[0].Values[0].Slot = "home" }, api.ErrName},
		{"0 value 0", func(x *load) { x.L[0].Values[0].Slot = "boss" }, api.ErrName},
		{"0 value 0", func(x *load) { x.L[0].Values[0].Slot = "pay" }, api.ErrName},
		{"0 value 0", value(0, 0, api.Value{Kind: 9}), api.ErrForm},
		{"0 value 0", value(0, 0, text("x")), api.ErrType},
		{"0 value 0", value(0, 0, integer(api.MaxInt+1)), api.ErrArg},
		{"0 value 1", func(x *load) { x.L[0].Values[1].Slot = "" }, api.ErrName},
		{"0 value 1", func(x *load) { x.L[0].Values[1].Slot = "home.zip" }, api.ErrTwice},
		{"0 value 1", value(0, 1, text(long(api.MaxText+1))), api.ErrLarge},
		{"0 one 0", func(x *load) { x.L[0].Ones[0].Relation = "mate" }, api.ErrName},
		{"0 one 0", func(x *load) { x.L[0].Ones[0].Relation = "name" }, api.ErrName},
		{"0 one more", func(x *load) { x.L[0].Ones = append(x.L[0].Ones, api.FixtureOne{Relation: "boss", Label: "none"}) }, api.ErrTwice},
		{"1 label", func(x *load) { x.L[1].Label = "ada" }, api.ErrTwice},
		{"1 tenant", func(x *load) { x.L[1].Tenant = 0 }, api.ErrTenant},
		{"1 value 1", func(x *load) { x.L[1].Values[1].Slot = "loud" }, api.ErrName},
		{"1 value 1", value(1, 1, moment(-1)), api.ErrArg},
		{"1 one 1", func(x *load) { x.L[1].Ones[1].Relation = "reply" }, api.ErrTwice},
		{"3 entity", func(x *load) { x.L[3].Entity = "notes" }, api.ErrName},
		{"0 to", func(x *load) { x.L[0].Ones[0].Label = "none" }, api.ErrNone},
		{"0 to", func(x *load) { x.L[0].Ones[0].Label = "ada" }, api.ErrType},
		{"0 to", func(x *load) { x.L[0].Ones[0].Label = "m" }, api.ErrType},
		{"1 to", func(x *load) { x.L[1].Ones[0].Label = "will" }, api.ErrType},
		{"2 to", func(x *load) { x.L[2].Ones[0].Label = "" }, api.ErrNone},
		{"0 size", func(x *load) {
			x.L[0].Values = append(x.L[0].Values, api.FixtureValue{Slot: "size", Value: text("m")})
		}, api.ErrArg},
		{"3 body", func(x *load) { x.L[3].Values = nil }, api.ErrNull},
		{"3 one", func(x *load) { x.L[3].Ones = nil }, api.ErrNull},
		{"twins", func(x *load) { twin := x.L[3]; twin.Label = "twin"; x.L = append(x.L, twin) }, api.ErrKey},
	})
	// The first fixture with an error is told; errors of references come behind all others.
	x := load{zoo(t), people(), loaded()}
	x.L[0].Ones[0].Label, x.L[3].Label = "none", "m"
	want(t, try(x), api.ErrTwice)
	x = load{zoo(t), people(), loaded()}
	x.L[1].Tenant = api.MaxInt + 1
	want(t, try(x), api.ErrArg)
	x = load{zoo(t), people(), loaded()}
	x.W.Objects[1].ID, x.W.Objects[0].Ones[0] = api.MaxInt, api.MaxInt
	want(t, try(x), api.ErrArg)
	// A reference is an id: it is one of the own tenant.
	x.W = people()
	x.L = []api.Fixture{loaded()[0], loaded()[2], loaded()[3], {Label: "o", Entity: "note", Tenant: 3, Values: []api.FixtureValue{{Slot: "body", Value: text("o")}}, Ones: []api.FixtureOne{{Relation: "owner", Label: "ada"}}}, {Label: "p", Entity: "note", Tenant: 3, Values: []api.FixtureValue{{Slot: "body", Value: text("p")}}, Ones: []api.FixtureOne{{Relation: "owner", Label: "ada"}}}}
	x.L[2].Ones = append(x.L[2].Ones, api.FixtureOne{Relation: "reply", Label: "p"})
	want(t, try(x), api.ErrRef)
}

// P9.14: the world can be too large.
func TestLoadLarge(t *testing.T) {
	m := model(t, "entity a", "field x int null")
	var l []api.Fixture
	for i := range api.MaxObjects {
		l = append(l, api.Fixture{Label: strconv.Itoa(i), Entity: "a"})
	}
	w, refs, err := shards.Load(m, api.World{}, l)
	must(t, err)
	expect(t, []int{len(w.Objects), len(refs), refs[api.MaxObjects-1].ID}, []int{api.MaxObjects, api.MaxObjects, api.MaxObjects})
	_, _, err = shards.Load(m, w, []api.Fixture{{Label: "x", Entity: "a"}})
	want(t, err, api.ErrLarge)
}

// fixture makes a fixture that is often right.
func (r *maker) fixture(labels []string) api.Fixture {
	f := api.Fixture{Label: pick(r, labels...), Entity: r.entity()}
	if r.isOf(f.Entity, "note") != r.chance(30) {
		f.Tenant = 1 + r.Intn(2)
	}
	slots, _ := schema.Slots(r.m, f.Entity)
	for _, s := range slots {
		switch {
		case r.chance(2):
		case s.Kind != 0:
			f.Values = append(f.Values, api.FixtureValue{Slot: s.Name, Value: r.value(s.Kind)})
		default:
			f.Ones = append(f.Ones, api.FixtureOne{Relation: s.Name, Label: pick(r, labels...)})
		}
	}
	return f
}

// naiveLoad says what fixtures become that have no error ahead of those of the world.
func (r *maker) naiveLoad(w api.World, l []api.Fixture) (api.World, []api.Ref) {
	w = clone(w)
	var refs []api.Ref
	for _, f := range l {
		root, _ := schema.Root(r.m, f.Entity)
		o := api.Object{Entity: f.Entity, Tenant: f.Tenant}
		for _, x := range w.Objects {
			if is, _ := schema.Root(r.m, x.Entity); is == root && x.Tenant == f.Tenant {
				o.ID = max(o.ID, x.ID)
			}
		}
		o.ID++
		if r.m.Entities[slices.IndexFunc(r.m.Entities, func(e api.Entity) bool { return e.Name == root })].Version {
			o.Version = 1
		}
		refs = append(refs, api.Ref{Entity: o.Entity, Tenant: o.Tenant, ID: o.ID})
		w.Objects = append(w.Objects, o)
	}
	for i, f := range l {
		o := &w.Objects[len(w.Objects)-len(l)+i]
		slots, _ := schema.Slots(r.m, f.Entity)
		for _, s := range slots {
			if s.Kind == 0 {
				o.Ones = append(o.Ones, 0)
				for _, x := range f.Ones {
					if x.Relation == s.Name {
						o.Ones[len(o.Ones)-1] = refs[slices.IndexFunc(l, func(g api.Fixture) bool { return g.Label == x.Label })].ID
					}
				}
				continue
			}
			v := null
			for _, e := range r.m.Entities {
				for _, g := range e.Fields {
					if g.Name == s.Name {
						v = g.Default
					}
				}
			}
			for _, x := range f.Values {
				if x.Slot == s.Name {
					v = x.Value
				}
			}
			o.Values = append(o.Values, v)
		}
	}
	n := naive{r: r, families: map[string]int{}}
	slices.SortStableFunc(w.Objects, n.compare)
	return w, refs
}

// P9.14: fixtures at random become what the document says.
func TestRandomLoad(t *testing.T) {
	errors := map[api.Errno]int{}
	randomly(t, 60, func(t *testing.T, r *maker) {
		w := r.world()
		for range 20 {
			var l []api.Fixture
			labels := []string{"a", "b", "c", "d", "e"}
			for range 1 + r.Intn(5) {
				l = append(l, r.fixture(labels))
				if !r.chance(10) {
					l[len(l)-1].Label = labels[len(l)-1]
				}
			}
			got, refs, err := shards.Load(r.m, w, l)
			errors[err]++
			switch err {
			case api.ErrTwice, api.ErrTenant, api.ErrNone, api.ErrType:
				continue
			}
			wanted, named := r.naiveLoad(w, l)
			want(t, err, schema.CheckWorld(r.m, wanted))
			if err == api.OK {
				expect(t, got, wanted)
				expect(t, refs, named)
			}
		}
	})
	if !testing.Short() && slices.ContainsFunc([]api.Errno{api.OK, api.ErrType, api.ErrNone, api.ErrTenant}, func(err api.Errno) bool { return errors[err] < 50 }) {
		t.Error(errors)
	}
}
