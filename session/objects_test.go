package session_test

import (
	"testing"

	"dumbwaiter/api"
	"dumbwaiter/session"
)

// zoo is a model of persons, of whom some are workers, of houses, which are soft, and of pets.
func zoo(t testing.TB) api.Model {
	return model(t,
		"embed place", "field city text null", "field zip int default 7",
		"entity person version",
		"field name text default 'nn'", "field age int null", "field home embed place", "field adult bool = atleast(:age,18)",
		"one mate person clear", "many pets pet owner save", "pairs friends person friends save",
		"entity worker of person", "field pay int default 5", "one house house clear save", "pairs keys house holders",
		"entity house soft", "field street text null", "many workers worker house", "pairs holders worker keys save",
		"entity pet version", "field name text null", "one owner person cascade save", "one vet worker refuse", "unique name",
	)
}

// family is a world of the zoo: Ann (1) and her mate Bob (2), a worker in the house 1; Ann has the pets Rex (1) and Tom (2), whose vet is Bob; the house 2 is gone, and Bob has the keys of both.
func family() api.World {
	return api.World{
		Objects: []api.Object{
			{Entity: "person", ID: 1, Version: 3, Values: row(text("Ann"), integer(30), text("Ulm"), integer(1)), Ones: []int{2}},
			{Entity: "worker", ID: 2, Version: 1, Values: row(text("Bob"), null, null, integer(7), integer(9)), Ones: []int{1, 1}},
			{Entity: "house", ID: 1, Values: row(text("oak"))},
			{Entity: "house", ID: 2, Gone: moment(5), Values: row(null)},
			{Entity: "pet", ID: 1, Version: 1, Values: row(text("Rex")), Ones: []int{1, 0}},
			{Entity: "pet", ID: 2, Version: 2, Values: row(text("Tom")), Ones: []int{1, 2}},
		},
		Pairs: []api.PairOf{
			{Entity: "person", Relation: "friends", Left: 1, Right: 2},
			{Entity: "worker", Relation: "keys", Left: 2, Right: 1}, {Entity: "worker", Relation: "keys", Left: 2, Right: 2},
		},
	}
}

// visit returns a session with LoadLazy on a store with the family, and the store.
func visit(t testing.TB) user {
	t.Helper()
	return use(t, zoo(t), storeOf(t, zoo(t), family()), api.LoadLazy)
}

// offices is a model with tenants: desks belong to one, and stand in rooms, which do not.
func offices(t testing.TB) api.Model {
	return model(t,
		"entity room", "field name text default 'r'", "many desks desk room", "one next room clear",
		"entity desk version soft tenant", "field name text null", "one room room clear", "one side desk cascade", "pairs near desk near", "pairs seen room", "many sides desk side",
		"entity lamp of desk", "field on bool default false",
	)
}

// floor is a world of the offices: a room, and desks with the ids 1 and 2 of the tenants 1 and 2; the third one of the tenant 2 is gone.
func floor() api.World {
	desk := func(entity string, tenant, id int, name string, values ...api.Value) api.Object {
		return api.Object{Entity: entity, Tenant: tenant, ID: id, Version: 1, Values: append(row(text(name)), values...), Ones: []int{1, 0}}
	}
	w := api.World{Objects: []api.Object{
		{Entity: "room", ID: 1, Values: row(text("hall")), Ones: []int{0}},
		desk("desk", 1, 1, "a"), desk("desk", 1, 2, "b"), desk("desk", 2, 1, "c"), desk("lamp", 2, 2, "d", boolean(1)), desk("desk", 2, 3, "e"),
	}}
	w.Objects[5].Gone = moment(7)
	w.Objects[4].Ones[1] = 3
	return w
}

// P7.1: an object has one handle, which it gets when it is first returned.
func TestHandles(t *testing.T) {
	u := visit(t)
	ann := u.get("person", 1)
	expect(t, u.value(ann, "mate.name"), text("Bob"))
	rex := u.get("pet", 1)
	expect(t, []int{ann, rex}, []int{1, 2})
	expect(t, u.find(all("person")), []int{1, 3})
	expect(t, u.one(rex, "owner"), ann)
	expect(t, u.all(ann, "pets"), []int{rex, 4})
	expect(t, u.all(ann, "friends"), []int{3})
	expect(t, u.get("worker", 2), 3)
	expect(t, u.get("person", 2), 3)
	made := u.made("house", 2)
	expect(t, made, []int{5, 6})
	must(t, u.Save(6), u.Flush())
	expect(t, u.find(all("house")), []int{7, 6})
	u.states(api.StateClean, api.StateClean, api.StateClean, api.StateClean, api.StateFree, api.StateClean, api.StateClean)
	expect(t, u.State(0), 0)
	expect(t, u.State(8), 0)
	expect(t, u.State(-1), 0)
}

// P7.1: an object in StatePast is never met again.
func TestPast(t *testing.T) {
	u := visit(t)
	tom, oak := u.get("pet", 2), u.get("house", 1)
	must(t, u.Remove(tom), u.Flush())
	rex := u.get("pet", 1)
	again := u.made("pet", 1)[0]
	must(t, u.Save(again), u.Flush())
	expect(t, u.object(again).ID, 2)
	expect(t, u.get("pet", 2), again)
	u.states(api.StatePast, api.StateClean, api.StateClean, api.StateClean)
	must(t, u.Remove(oak), u.Flush())
	if _, err := u.Get("house", 1); err != api.ErrNone {
		t.Error(err)
	}
	u.Rollback()
	u.states(api.StatePast, api.StatePast, api.StatePast, api.StatePast)
	expect(t, u.get("pet", 1), rex+2)
	expect(t, u.find(all("pet")), []int{5, 6})
	expect(t, u.value(6, "name"), text("Tom"))
}

// P7.1: what a session with a tenant sees, and one for all.
func TestTenants(t *testing.T) {
	m := offices(t)
	u := useFor(t, m, storeOf(t, m, floor()), 2, api.LoadLazy)
	desk, room := u.get("desk", 1), u.get("room", 1)
	expect(t, u.value(desk, "name"), text("c"))
	expect(t, u.find(all("desk")), []int{desk, 3})
	expect(t, u.object(3).Entity, "lamp")
	expect(t, u.all(room, "desks"), []int{desk, 3})
	expect(t, u.one(3, "side"), 0)
	expect(t, u.value(3, "side"), null)
	expect(t, u.object(3).Ones, []int{1, 3})
	_, err := u.Get("desk", 3)
	want(t, err, api.ErrNone)
	h, err := u.Make("desk", 0)
	must(t, err, u.Save(h), u.Commit())
	expect(t, u.object(h), api.Object{Entity: "desk", Tenant: 2, ID: 4, Version: 1, Values: row(null), Ones: []int{0, 0}})

	u = use(t, m, storeOf(t, m, floor()), api.LoadLazy)
	expect(t, u.find(all("desk")), []int{1, 2, 3, 4})
	expect(t, u.object(3).Tenant, 2)
	room = u.get("room", 1)
	expect(t, u.all(room, "desks"), []int{1, 2, 3, 4})
	expect(t, u.find(api.Find{Entity: "desk", Limit: -1, Tenant: 1}), []int{1, 2})
}

// P7.1: the moment of a session is the Gone of what it removes.
func TestMoment(t *testing.T) {
	m := zoo(t)
	for _, now := range []int{0, 77, api.MaxMoment} {
		db := storeOf(t, m, family())
		s, err := session.New(m, db, 0, now, api.LoadLazy, nil)
		must(t, err)
		h, err := s.Get("house", 1)
		must(t, err, s.Remove(h), s.Commit())
		expect(t, worldOf(t, m, db).Objects[2].Gone, moment(now))
	}
}

// P7.2: objects without an id, and references to them.
func TestNewObjects(t *testing.T) {
	u := visit(t)
	l := u.made("pet", 1)
	pet, person := l[0], u.made("worker", 1)[0]
	expect(t, u.object(person), api.Object{Entity: "worker", Values: row(text("nn"), null, null, integer(7), integer(5)), Ones: []int{0, 0}})
	must(t, u.Point(pet, "owner", person), u.Set(person, "name", text("Eve")), u.Set(person, "home.city", text("Bonn")))
	for path, want := range map[string]api.Value{
		"id": null, "version": null, "owner": null, "owner.id": null, "owner.version": null, "owner.name": text("Eve"),
		"owner.home.city": text("Bonn"), "owner.home.zip": integer(7), "owner.mate.name": null, "vet": null,
	} {
		if got := u.value(pet, path); got != want {
			t.Error(path, got)
		}
	}
	expect(t, u.one(pet, "owner"), person)
	expect(t, u.object(pet).Ones, []int{0, 0})
	expect(t, u.value(person, "adult"), null)
	must(t, u.Set(person, "age", integer(18)))
	expect(t, u.value(person, "adult"), boolean(1))
	expect(t, u.value(pet, "owner.adult"), boolean(1))
	must(t, u.Save(pet), u.Flush())
	for path, want := range map[string]api.Value{"id": integer(3), "version": integer(1), "owner": integer(3), "owner.id": integer(3), "owner.version": integer(1)} {
		if got := u.value(pet, path); got != want {
			t.Error(path, got)
		}
	}
	expect(t, u.object(pet), api.Object{Entity: "pet", ID: 3, Version: 1, Values: row(null), Ones: []int{3, 0}})
	u.statements(0)
}

// P7.2: the program sees what was loaded, and what it has set since.
func TestCurrent(t *testing.T) {
	u := visit(t)
	ann := u.get("person", 1)
	expect(t, u.object(ann), family().Objects[0])
	must(t, u.Set(ann, "name", text("Amy")), u.Point(ann, "mate", ann))
	expect(t, u.value(ann, "name"), text("Amy"))
	expect(t, u.value(ann, "mate.mate.name"), text("Amy"))
	expect(t, u.one(ann, "mate"), ann)
	expect(t, u.value(u.get("pet", 1), "owner.name"), text("Amy"))
	expect(t, u.object(ann).Version, 3)
	// A reference to what is removed counts as 0, but is told by Object.
	bob := u.get("person", 2)
	must(t, u.Remove(ann))
	expect(t, u.one(bob, "mate"), 0)
	expect(t, u.value(bob, "mate"), null)
	expect(t, u.value(bob, "mate.name"), null)
	expect(t, u.object(bob).Ones, []int{1, 1})
	expect(t, u.value(ann, "name"), text("Amy"))
	expect(t, u.one(ann, "mate"), 0)
	// A reference to a new object that is removed is 0.
	must(t, u.Point(bob, "mate", u.made("person", 1)[0]))
	u.states(api.StateRemoved, api.StateClean, api.StateChanged, api.StateFree)
	must(t, u.Remove(4))
	u.states(api.StateRemoved, api.StateClean, api.StateChanged, api.StatePast)
	expect(t, u.object(bob).Ones, []int{0, 1})
	expect(t, u.one(bob, "mate"), 0)
}

// P7.4: an object is changed if a value or a reference is another one than it was.
func TestChanged(t *testing.T) {
	u := visit(t)
	ann, bob := u.get("person", 1), u.get("person", 2)
	is := func(state int) {
		t.Helper()
		u.states(state, api.StateClean)
	}
	must(t, u.Set(ann, "name", text("Ann")))
	is(api.StateClean)
	must(t, u.Set(ann, "name", text("Amy")))
	is(api.StateChanged)
	must(t, u.Set(ann, "age", null), u.Set(ann, "name", text("Ann")))
	is(api.StateChanged)
	must(t, u.Set(ann, "age", integer(30)))
	is(api.StateClean)
	must(t, u.Point(ann, "mate", 0))
	is(api.StateChanged)
	must(t, u.Point(ann, "mate", bob))
	is(api.StateClean)
	must(t, u.Link(ann, "friends", ann), u.Unlink(ann, "friends", bob))
	is(api.StateClean)
	must(t, u.Set(ann, "name", text("Amy")), u.Flush())
	is(api.StateClean)
	must(t, u.Set(ann, "name", text("Ann")))
	is(api.StateChanged)
	must(t, u.Set(ann, "name", text("Amy")), u.Point(ann, "mate", u.made("person", 1)[0]))
	is(api.StateChanged)
	must(t, u.Point(ann, "mate", 0), u.Flush(), u.Point(ann, "mate", 3), u.Remove(3))
	is(api.StateClean)
}

// Z2: results are new memory, and arguments are neither kept nor changed.
func TestMemory(t *testing.T) {
	m := zoo(t)
	db := storeOf(t, m, family())
	hooks := []api.Hook{{Entity: "person", When: api.HookSave, Slot: "name", Set: exprs(t, "upper(:name)"), Refuse: exprs(t, "equal(:age,99)")}}
	s, err := session.New(m, db, 0, 0, api.LoadBatch, hooks)
	must(t, err)
	u := user{t, s, db}
	other := zoo(t)
	m.Entities[0].Fields[0].Name, m.Entities[0].Relations[0].To, m.Embeds[0].Fields[0].Kind = "x", "pet", api.Bool
	clear(m.Entities)
	hooks[0].Set[0].Op, hooks[0].Refuse[0].Args[1].Value.N = api.OpLower, 30
	clear(hooks)
	ann := u.get("person", 1)
	o := u.object(ann)
	o.Values[0], o.Ones[0] = text("x"), 9
	expect(t, u.object(ann), family().Objects[0])
	l := u.find(all("person"))
	clear(l)
	clear(u.all(ann, "pets"))
	expect(t, u.all(ann, "pets"), []int{3, 4})
	must(t, u.Set(ann, "age", integer(31)), u.Commit())
	expect(t, u.value(ann, "name"), text("ANN"))
	expect(t, worldOf(t, other, db).Objects[0].Values[0], text("ANN"))

	f, params := api.Find{Entity: "person", Where: where(t, "equal(:name,?0)"), Order: []api.By{{Path: "name"}}, Limit: -1, Include: []string{"pets"}}, row(text("ANN"))
	g, p := clone(f), clone(params)
	expect(t, u.find(f, params...), []int{ann})
	expect(t, f, g)
	expect(t, params, p)
}
