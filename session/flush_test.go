package session_test

import (
	"testing"

	"dumbwaiter/api"
	"dumbwaiter/session"
)

// P7.5, step 1: objects that are reached by relations with Cascade are saved, too.
func TestCascade(t *testing.T) {
	m := model(t,
		"entity a", "one next a clear save", "one other a clear", "many kids b up save", "many aunts b side", "many nieces c side save", "pairs out b save", "pairs both a both save", "pairs from b to",
		"entity b", "one up a clear", "one side a clear", "pairs to a from save", "pairs mere a", "entity c of b",
	)
	const free, clean = api.StateFree, api.StateClean
	for _, x := range []struct {
		name string
		do   func(u user) // with the objects 1 to 4 of a, and 5 to 8 of b, all in StateFree
		want []int
	}{
		{"one", func(u user) { must(u, u.Point(1, "next", 2), u.Point(2, "next", 3), u.Save(1)) }, []int{clean, clean, clean, free, free, free, free, free}},
		{"from behind", func(u user) { must(u, u.Point(1, "next", 2), u.Save(2)) }, []int{free, clean, free, free, free, free, free, free}},
		{"many", func(u user) { must(u, u.Point(5, "up", 1), u.Link(1, "kids", 6), u.Save(1)) }, []int{clean, free, free, free, clean, clean, free, free}},
		{"many below", func(u user) {
			must(u, u.Point(u.made("c", 1)[0], "side", 1), u.Point(5, "side", 2), u.Save(1), u.Save(2))
		}, []int{clean, clean, free, free, free, free, free, free, clean}},
		{"pairs", func(u user) { must(u, u.Link(1, "out", 5), u.Save(1)) }, []int{clean, free, free, free, clean, free, free, free}},
		{"both", func(u user) { must(u, u.Link(2, "both", 1), u.Link(2, "both", 3), u.Save(1)) }, []int{clean, clean, clean, free, free, free, free, free}},
		{"to", func(u user) { must(u, u.Link(1, "from", 5), u.Save(5)) }, []int{clean, free, free, free, clean, free, free, free}},
		{"circle", func(u user) {
			must(u, u.Point(1, "next", 2), u.Point(2, "next", 1), u.Link(2, "kids", 5), u.Link(5, "to", 3), u.Point(3, "next", 4), u.Save(1))
		}, []int{clean, clean, clean, clean, clean, free, free, free}},
		{"clean", func(u user) {
			must(u, u.Save(1), u.Flush(), u.Link(1, "kids", 5))
			u.states(clean, free, free, free, free)
		}, []int{clean, free, free, free, clean, free, free, free}},
		{"changed", func(u user) {
			must(u, u.Save(1), u.Flush(), u.Point(1, "next", 2))
			u.states(api.StateChanged, free)
		}, []int{clean, clean, free, free, free, free, free, free}},
		{"unlinked", func(u user) { must(u, u.Link(1, "out", 5), u.Unlink(1, "out", 5), u.Save(1)) }, []int{clean, free, free, free, free, free, free, free}},
		{"removed", func(u user) {
			must(u, u.Save(1), u.Flush(), u.Point(1, "next", 2), u.Link(1, "kids", 5), u.Remove(1))
		}, []int{api.StatePast, free, free, free, free, free, free, free}},
		{"nothing", func(u user) { must(u, u.Point(1, "next", 2), u.Link(3, "kids", 5)) }, []int{free, free, free, free, free, free, free, free}},
	} {
		_, u := fresh(t, m)
		u.made("a", 4)
		u.made("b", 4)
		x.do(u)
		must(t, u.Flush())
		for h, state := range x.want {
			if got := u.State(h + 1); got != state {
				t.Error(x.name, h+1, got, state)
			}
		}
	}
	// What a relation without Cascade leads to is not saved (step 2).
	for name, do := range map[string]func(u user){
		"one":     func(u user) { must(u, u.Point(1, "other", 2), u.Save(1)) },
		"up":      func(u user) { must(u, u.Point(5, "up", 1), u.Save(5)) },
		"many":    func(u user) { must(u, u.Point(5, "side", 1), u.Save(5)) },
		"from":    func(u user) { must(u, u.Link(1, "from", 5), u.Save(1)) },
		"mere":    func(u user) { must(u, u.Link(5, "mere", 1), u.Save(5)) },
		"out":     func(u user) { must(u, u.Link(1, "out", 5), u.Save(5)) },
		"nobody":  func(u user) { must(u, u.Link(1, "out", 5)) },
		"behind":  func(u user) { must(u, u.Point(1, "next", 2), u.Point(2, "other", 3), u.Save(1)) },
		"changed": func(u user) { must(u, u.Save(1), u.Flush(), u.Point(1, "other", 2)) },
	} {
		_, u := fresh(t, m)
		u.made("a", 4)
		u.made("b", 4)
		do(u)
		if err := u.Flush(); err != api.ErrRef {
			t.Error(name, err)
		}
		if u.State(2) != free || u.Flush() != api.ErrRef {
			t.Error(name, "is saved")
		}
	}
}

// P7.5, step 3: what happens to objects that refer to one that is removed.
func TestGoing(t *testing.T) {
	m := model(t,
		"entity a version", "one up a cascade", "one to a clear", "one hard a refuse", "pairs p a", "pairs q b",
		"entity b version soft", "one up a cascade", "one to a clear", "one hard a refuse", "one mate b cascade", "many l b mate",
	)
	a := func(id, up, to, hard int) api.Object {
		return api.Object{Entity: "a", ID: id, Version: 5, Ones: []int{up, to, hard}}
	}
	b := func(id, up, to, hard, mate int, gone api.Value) api.Object {
		return api.Object{Entity: "b", ID: id, Version: 5, Gone: gone, Ones: []int{up, to, hard, mate}}
	}
	changed := func(o api.Object, place, id int) api.Object {
		o = clone(o)
		o.Ones[place] = id
		o.Version++
		return o
	}
	base := api.World{
		Objects: []api.Object{
			a(1, 0, 0, 0), a(2, 1, 0, 0), a(3, 2, 1, 2), a(4, 0, 2, 0), a(5, 0, 0, 4),
			b(1, 1, 0, 0, 0, null), b(2, 0, 3, 0, 0, moment(9)), b(3, 0, 0, 0, 1, null), b(4, 4, 0, 5, 0, moment(9)),
		},
		Pairs: []api.PairOf{
			{Entity: "a", Relation: "p", Left: 1, Right: 4}, {Entity: "a", Relation: "p", Left: 4, Right: 3}, {Entity: "a", Relation: "p", Left: 4, Right: 5},
			{Entity: "a", Relation: "q", Left: 4, Right: 1}, {Entity: "a", Relation: "q", Left: 5, Right: 2},
		},
	}
	o := base.Objects
	for name, x := range map[string]struct {
		do   func(u user) // with the objects 1 to 5 of a and 6 and 7 for 1 and 3 of b
		err  api.Errno
		want api.World
	}{
		// 1 takes 2, 3 and the objects 1 and 3 of b with it, though 3 refers to 2 by one with Refuse.
		"cascade": {func(u user) { must(u, u.Remove(1)) }, api.OK, api.World{
			Objects: []api.Object{changed(o[3], 1, 0), o[4], changed(o[6], 1, 0), o[8]},
			Pairs:   []api.PairOf{base.Pairs[2], base.Pairs[4]},
		}},
		"refuse":      {func(u user) { must(u, u.Remove(4)) }, api.ErrRef, base},
		"gone refuse": {func(u user) { must(u, u.Remove(5)) }, api.ErrRef, base},
		"refuse both": {func(u user) { must(u, u.Remove(4), u.Remove(5)) }, api.OK, api.World{
			Objects: []api.Object{o[0], o[1], o[2], o[5], o[6], o[7]},
			Pairs:   nil,
		}},
		"current": {func(u user) { must(u, u.Point(5, "hard", 5), u.Remove(4)) }, api.OK, api.World{
			Objects: []api.Object{o[0], o[1], o[2], changed(o[4], 2, 5), o[5], o[6], o[7]},
			Pairs:   []api.PairOf{base.Pairs[4]},
		}},
		"current refuse": {func(u user) { must(u, u.Point(2, "hard", 1), u.Point(2, "up", 0), u.Point(3, "up", 0), u.Remove(1)) }, api.ErrRef, base},
		"soft": {func(u user) { must(u, u.Remove(6), u.Point(7, "hard", 1), u.Remove(7)) }, api.OK, api.World{
			Objects: []api.Object{o[0], o[1], o[2], o[3], o[4], gone(o[5]), o[6], gone(changedOne(o[7], 2, 1)), o[8]},
			Pairs:   base.Pairs,
		}},
		"soft refuse": {func(u user) { must(u, u.Point(7, "hard", 1), u.Point(7, "mate", 0), u.Remove(7), u.Remove(1)) }, api.ErrRef, base},
		"soft clear": {func(u user) { must(u, u.Point(7, "to", 3), u.Point(7, "mate", 0), u.Remove(7), u.Remove(3)) }, api.OK, api.World{
			Objects: []api.Object{o[0], o[1], o[3], o[4], o[5], changed(o[6], 1, 0), gone(changedOne(o[7], 3, 0)), o[8]},
			Pairs:   []api.PairOf{base.Pairs[0], base.Pairs[2], base.Pairs[3], base.Pairs[4]},
		}},
		"soft cascade": {func(u user) { must(u, u.Remove(7), u.Remove(1)) }, api.OK, api.World{
			Objects: []api.Object{changed(o[3], 1, 0), o[4], changed(o[6], 1, 0), o[8]},
			Pairs:   []api.PairOf{base.Pairs[2], base.Pairs[4]},
		}},
	} {
		db := storeOf(t, m, base)
		u := use(t, m, db, api.LoadLazy)
		u.find(all("a"))
		u.find(all("b"))
		x.do(u)
		var before []int
		for h := range 8 {
			before = append(before, u.State(h))
		}
		if err := u.Commit(); err != x.err {
			t.Error(name, err)
		}
		if w := worldOf(t, m, db); !same(w, x.want) {
			t.Error(name, w, x.want)
		}
		for h, state := range before {
			if x.err != api.OK && u.State(h) != state {
				t.Error(name, h, u.State(h), state)
			}
		}
	}
}

// gone is an object that was removed at the moment 100.
func gone(o api.Object) api.Object {
	o.Gone = moment(100)
	o.Version++
	return o
}

// changedOne is an object with another reference.
func changedOne(o api.Object, place, id int) api.Object {
	o = clone(o)
	o.Ones[place] = id
	return o
}

// P7.5: objects that a removal changes or removes show that, and new ones that refer to what is removed are never written.
func TestGoingShows(t *testing.T) {
	u := visit(t)
	ann, bob, rex := u.get("person", 1), u.get("person", 2), u.get("pet", 1)
	tom := u.one(u.made("pet", 1)[0], "vet") // 0: Tom is not loaded
	expect(t, tom, 0)
	free, pup, kid := u.made("person", 1)[0], u.made("pet", 1)[0], u.made("person", 1)[0]
	must(t, u.Point(free, "mate", ann), u.Point(pup, "owner", ann), u.Save(pup), u.Point(kid, "mate", ann), u.Save(kid), u.Remove(ann), u.Flush())
	u.states(api.StatePast, api.StateClean, api.StatePast, api.StateFree, api.StateFree, api.StatePast, api.StateClean)
	expect(t, u.object(bob), api.Object{Entity: "worker", ID: 2, Version: 2, Values: family().Objects[1].Values, Ones: []int{0, 1}})
	expect(t, u.object(kid).Ones, []int{0})
	expect(t, u.object(free).Ones, []int{0})
	expect(t, u.object(kid).ID, 3)
	expect(t, u.find(all("pet")), []int{})
	expect(t, rex, 3)
	// What was removed is read again, and not there; what was changed has been written.
	before := u.Statements()
	_, err := u.Get("pet", 2)
	want(t, err, api.ErrNone)
	u.statements(before + 1)
	expect(t, u.value(bob, "mate"), null)
	u.statements(before + 1)
}

// P7.5: references of objects in StateFree follow what a flush does.
func TestFree(t *testing.T) {
	u := visit(t)
	oak, free := u.get("house", 1), u.made("worker", 1)[0]
	kid := u.made("person", 1)[0]
	must(t, u.Point(free, "house", oak), u.Point(free, "mate", kid), u.Save(kid), u.Flush())
	expect(t, u.object(free).Ones, []int{3, 1})
	must(t, u.Remove(oak), u.Flush())
	u.states(api.StatePast, api.StateFree, api.StateClean)
	expect(t, u.object(free).Ones, []int{3, 0})
	expect(t, u.one(free, "mate"), kid)
	must(t, u.Remove(kid), u.Flush())
	expect(t, u.object(free).Ones, []int{0, 0})
	// It is a new object still.
	must(t, u.Save(free), u.Flush())
	expect(t, u.object(free).ID, 3)
}

// P7.5, step 4: ids.
func TestIDs(t *testing.T) {
	m := offices(t)
	db := storeOf(t, m, floor())
	u := use(t, m, db, api.LoadLazy)
	made := func(entity string, tenant int) int {
		h, err := u.Make(entity, tenant)
		must(t, err)
		return h
	}
	late, first, second, third, room := made("lamp", 2), made("desk", 2), made("desk", 1), made("lamp", 3), made("room", 0)
	must(t, u.Save(first), u.Save(second), u.Save(third), u.Save(room), u.Save(late), u.Flush())
	var got []int
	for _, h := range []int{late, first, second, third, room} {
		got = append(got, u.object(h).ID)
	}
	expect(t, got, []int{4, 5, 3, 1, 2})
	next := made("desk", 2)
	must(t, u.Remove(second), u.Remove(first), u.Save(next), u.Commit())
	expect(t, u.object(next).ID, 6)
	// Ids of what is removed whole are used again, also in the same flush.
	v := visit(t)
	tom, pet := v.get("pet", 2), v.made("pet", 2)
	must(t, v.Save(pet[0]), v.Save(pet[1]), v.Set(pet[0], "name", text("Tom")), v.Remove(tom), v.Flush())
	expect(t, []int{v.object(pet[0]).ID, v.object(pet[1]).ID}, []int{2, 3})
	expect(t, v.get("pet", 2), pet[0])
	v.states(api.StatePast, api.StateClean, api.StateClean)
	// Not those of what is gone, and none behind the greatest one.
	oak := v.get("house", 1)
	house := v.made("house", 1)[0]
	must(t, v.Remove(oak), v.Save(house), v.Flush())
	expect(t, v.object(house).ID, 3)
	w := family()
	w.Objects = []api.Object{{Entity: "house", ID: api.MaxInt, Values: row(null)}}
	w.Pairs = nil
	v = use(t, zoo(t), storeOf(t, zoo(t), w), api.LoadLazy)
	must(t, v.Save(v.made("house", 1)[0]))
	want(t, v.Flush(), api.ErrArg)
}

// P7.5, step 6: versions are those of what is written.
func TestVersions(t *testing.T) {
	u := visit(t)
	ann, bob, oak, tom := u.get("person", 1), u.get("person", 2), u.get("house", 1), u.get("pet", 2)
	is := func(h, version int) {
		t.Helper()
		expect(t, u.object(h).Version, version)
	}
	must(t, u.Set(ann, "name", text("Amy")))
	is(ann, 3)
	must(t, u.Flush())
	is(ann, 4)
	is(bob, 1)
	must(t, u.Flush(), u.Link(ann, "friends", ann), u.Flush(), u.Set(ann, "name", text("x")), u.Set(ann, "name", text("Amy")), u.Flush())
	is(ann, 4)
	must(t, u.Set(oak, "street", text("elm")), u.Flush())
	is(oak, 0)
	must(t, u.Set(ann, "age", null), u.Point(ann, "mate", 0), u.Set(bob, "pay", integer(0)), u.Flush())
	is(ann, 5)
	is(bob, 2)
	is(tom, 2)
	w := family()
	w.Objects[0].Version = api.MaxInt
	u = use(t, zoo(t), storeOf(t, zoo(t), w), api.LoadLazy)
	must(t, u.Set(u.get("person", 1), "age", null))
	want(t, u.Flush(), api.ErrArg)
}

// P7.5, step 7: the error is that of schema.CheckWorld, and nothing has changed then.
func TestChecks(t *testing.T) {
	m := model(t, "entity a version", "field x text default 'x'", "field y text null texts 'p' 'q'", "one to b need refuse", "many bs b up", "unique x", "entity b", "one up a clear save", "pairs l b")
	for name, x := range map[string]struct {
		do  func(u user) // with the objects 1 and 2 of a that refer to 3, of b
		err api.Errno
	}{
		"good":              {func(u user) { must(u, u.Set(1, "x", text("1"))) }, api.OK},
		"null":              {func(u user) { must(u, u.Set(1, "x", null)) }, api.ErrNull},
		"text":              {func(u user) { must(u, u.Set(1, "x", text("1")), u.Set(2, "y", text("r"))) }, api.ErrArg},
		"need":              {func(u user) { must(u, u.Set(1, "x", text("1")), u.Point(2, "to", 0)) }, api.ErrNull},
		"key":               {func(u user) {}, api.ErrKey},
		"step 2 ahead of 7": {func(u user) { must(u, u.Set(1, "x", null), u.Point(2, "to", u.made("b", 1)[0])) }, api.ErrRef},
		"null ahead of key": {func(u user) { must(u, u.Point(2, "to", 0)) }, api.ErrNull},
	} {
		db, u := fresh(t, m)
		u.made("a", 2)
		u.made("b", 1)
		free := u.made("a", 1)[0]
		must(t, u.Point(1, "to", 3), u.Point(2, "to", 3), u.Point(3, "up", free), u.Point(free, "to", 3), u.Set(free, "x", text("f")), u.Link(3, "l", 3), u.Save(1), u.Save(2), u.Save(3))
		x.do(u)
		for range 2 {
			if err := u.Commit(); err != x.err {
				t.Error(name, err)
			}
			if x.err == api.OK {
				break
			}
			u.states(api.StateNew, api.StateNew, api.StateNew, api.StateFree)
			expect(t, u.object(1).ID, 0)
			expect(t, u.object(3).Ones, []int{0})
			expect(t, worldOf(t, m, db), api.World{})
		}
		if x.err == api.OK {
			u.states(api.StateClean, api.StateClean, api.StateClean, api.StateClean)
			expect(t, u.all(3, "l"), []int{3})
		}
	}
}

// P7.5, step 7: a world can be too large.
func TestLargeWorld(t *testing.T) {
	m := model(t, "entity a", "field x int null")
	var w api.World
	for id := range api.MaxObjects {
		w.Objects = append(w.Objects, api.Object{Entity: "a", ID: id + 1, Values: row(null)})
	}
	db := storeOf(t, m, w)
	u := use(t, m, db, api.LoadLazy)
	h := u.made("a", 1)[0]
	must(t, u.Save(h))
	want(t, u.Commit(), api.ErrLarge)
	must(t, u.Remove(u.get("a", 7)), u.Commit())
	expect(t, u.object(h).ID, api.MaxObjects+1)
}

// P7.5, step 7: the tables can have more than a world, if only what is written is one.
func TestTooMuch(t *testing.T) {
	m := model(t, "entity a", "field x int null", "entity b", "field x int null")
	db := storeOf(t, m, api.World{})
	x := db.Begin()
	for id := range 2600 {
		must(t, x.Insert("a", row(integer(id+1), null)), x.Insert("b", row(integer(id+1), null)))
	}
	must(t, x.Commit())
	u := use(t, m, db, api.LoadLazy)
	f := all("a")
	f.Limit = 200
	for i, h := range u.find(f) {
		must(t, u.Remove(h))
		if i == 198 {
			want(t, u.Flush(), api.ErrLarge)
		}
	}
	must(t, u.Commit())
	w := worldOf(t, m, db)
	expect(t, []int{len(w.Objects), w.Objects[0].ID}, []int{api.MaxObjects, 201})
}

// P7.5: unique values can be exchanged, and pairs be added and removed, in one flush.
func TestAtOnce(t *testing.T) {
	m := zoo(t)
	db := storeOf(t, m, family())
	u := use(t, m, db, api.LoadLazy)
	rex, tom, bob, oak := u.get("pet", 1), u.get("pet", 2), u.get("worker", 2), u.get("house", 1)
	must(t, u.Set(rex, "name", text("Tom")), u.Set(tom, "name", text("Rex")), u.Unlink(oak, "holders", bob), u.Link(bob, "friends", bob), u.Commit())
	w := worldOf(t, m, db)
	expect(t, []api.Value{w.Objects[4].Values[0], w.Objects[5].Values[0]}, row(text("Tom"), text("Rex")))
	expect(t, w.Pairs, []api.PairOf{{Entity: "person", Relation: "friends", Left: 1, Right: 2}, {Entity: "person", Relation: "friends", Left: 2, Right: 2}, {Entity: "worker", Relation: "keys", Left: 2, Right: 2}})
}

// P7.5: the errors in their order.
func TestFlushErrors(t *testing.T) {
	m := zoo(t)
	hooks := []api.Hook{
		{Entity: "house", When: api.HookSave, Refuse: exprs(t, "equal(:street,'no')")},
		{Entity: "pet", When: api.HookRemove, Refuse: exprs(t, "true")},
	}
	faults := []struct {
		do   func(u user)
		want api.Errno
	}{
		{func(u user) { // Bob has changed meanwhile
			v := use(u, m, u.db, api.LoadLazy)
			must(u, v.Set(v.get("person", 2), "age", integer(5)), v.Commit(), u.Hold(2))
		}, api.ErrStale},
		{func(u user) { must(u, u.Point(1, "mate", u.made("person", 1)[0])) }, api.ErrRef},
		{func(u user) { must(u, u.Set(4, "street", text("no"))) }, api.ErrRefused},
		{func(u user) { must(u, u.Set(1, "name", null)) }, api.ErrNull},
	}
	for i, a := range faults {
		for k := i; k < len(faults); k++ {
			db := storeOf(t, m, family())
			s, err := session.New(m, db, 0, 100, api.LoadLazy, hooks)
			must(t, err)
			u := user{t, s, db}
			for n, h := range []int{u.get("person", 1), u.get("person", 2), u.get("pet", 1), u.get("house", 1)} {
				expect(t, h, n+1)
			}
			must(t, u.Commit())
			faults[k].do(u)
			if k > i {
				a.do(u)
			}
			if err := u.Flush(); err != a.want {
				t.Error(i, k, err)
			}
		}
	}
}

// P7.5: if there is nothing to be written, nothing is.
func TestNothing(t *testing.T) {
	m := zoo(t)
	db := storeOf(t, m, family())
	u := use(t, m, db, api.LoadLazy)
	bob, oak := u.get("person", 2), u.get("house", 1)
	must(t, u.Link(bob, "keys", oak), u.Unlink(bob, "friends", bob), u.Set(bob, "age", null), u.Flush(), u.Hold(bob), u.Flush(), u.Commit())
	expect(t, worldOf(t, m, db), family())
	// What stays as it is has no mark either: another session can change it.
	v := use(t, m, db, api.LoadLazy)
	must(t, v.Set(v.get("person", 1), "age", null))
	u.value(bob, "name")
	u.find(all("person"))
	must(t, v.Commit(), u.Commit())
}

// P7.6: what step 3 may not do to an object of another tenant. (No model makes it.)
func TestForeign(t *testing.T) {
	m := offices(t)
	for _, x := range []struct {
		session, tenant int
		whole, changed  bool
		want            api.Errno
	}{{1, 1, true, false, api.OK}, {1, 1, false, true, api.OK}, {1, 2, false, false, api.OK}, {1, 2, true, false, api.ErrTenant}, {1, 2, false, true, api.ErrTenant}, {1, 0, true, false, api.ErrTenant}, {1, 0, false, true, api.ErrTenant}, {0, 2, true, true, api.OK}, {0, 0, false, true, api.OK}} {
		was := api.Object{Entity: "desk", Tenant: x.tenant, ID: 1, Values: row(null), Ones: []int{1, 0}}
		now := clone(was)
		if x.changed {
			now.Ones[0] = 0
		}
		want(t, session.CheckTenants(m, x.session, was, now, x.whole), x.want)
	}
}
