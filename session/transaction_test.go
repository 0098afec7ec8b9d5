package session_test

import (
	"testing"

	"dumbwaiter/api"
	"dumbwaiter/migrate"
	"dumbwaiter/session"
	"dumbwaiter/store"
)

// two returns two sessions on a store with the family.
func two(t testing.TB) (user, user) {
	t.Helper()
	u := visit(t)
	return u, use(t, zoo(t), u.db, api.LoadLazy)
}

// rename gives a person another name, and commits.
func (u user) rename(id int, name string) {
	u.Helper()
	must(u, u.Set(u.get("person", id), "name", text(name)), u.Commit())
}

// P7.9: a transaction sees what there was when it began, and what the session has written.
func TestSnapshot(t *testing.T) {
	u, v := two(t)
	u.get("pet", 1)
	v.rename(1, "Amy")
	v.rename(2, "Ben")
	ann := u.get("person", 1)
	expect(t, u.value(ann, "name"), text("Ann"))
	expect(t, u.value(ann, "mate.name"), text("Bob"))
	expect(t, len(u.find(api.Find{Entity: "person", Where: where(t, "equal(:name,'Bob')"), Limit: -1})), 1)
	u.Rollback()
	expect(t, u.value(u.get("person", 1), "name"), text("Amy"))
	// A flush can be seen by the session alone.
	kid := u.made("person", 1)[0]
	must(t, u.Save(kid), u.Flush())
	expect(t, len(u.find(all("person"))), 3)
	expect(t, len(v.find(all("person"))), 2)
	must(t, v.Commit(), u.Commit())
	expect(t, len(v.find(all("person"))), 3)
}

// P7.9: what is loaded has no mark, what is written and held has.
func TestNotes(t *testing.T) {
	read := func(u user) {
		l := u.find(all("person"))
		u.all(l[0], "pets")
		u.all(l[1], "keys")
		u.value(l[0], "mate.name")
		u.get("house", 1)
	}
	change := func(do func(v user)) func(v user) {
		return func(v user) {
			do(v)
			must(v, v.Commit())
		}
	}
	renames := change(func(v user) { must(v, v.Set(v.get("person", 1), "name", text("x"))) })
	for name, x := range map[string]struct {
		mine, other func(u user)
		want        api.Errno
	}{
		"loaded":       {func(u user) {}, renames, api.OK},
		"other object": {func(u user) { must(u, u.Set(u.get("house", 1), "street", null)) }, renames, api.OK},
		"refers to":    {func(u user) { must(u, u.Set(u.get("person", 2), "age", null), u.Point(u.get("pet", 1), "owner", 2)) }, renames, api.OK},
		"both write":   {func(u user) { must(u, u.Set(u.get("person", 1), "age", integer(1))) }, renames, api.ErrConflict},
		"held":         {func(u user) { must(u, u.Hold(u.get("person", 1))) }, renames, api.ErrConflict},
		"held before":  {func(u user) { must(u, u.Hold(u.get("person", 1)), u.Flush()) }, renames, api.ErrConflict},
		"held another": {func(u user) { must(u, u.Hold(u.get("person", 2))) }, renames, api.OK},
		"removed":      {func(u user) { must(u, u.Remove(u.get("person", 1))) }, renames, api.ErrConflict},
		"new id":       {func(u user) { must(u, u.Save(u.made("person", 1)[0])) }, change(func(v user) { must(v, v.Save(v.made("person", 1)[0])) }), api.ErrConflict},
		"refers":       {func(u user) { must(u, u.Remove(u.get("pet", 1))) }, change(func(v user) { must(v, v.Save(v.made("pet", 1)[0])) }), api.OK},
		"refers to it": {func(u user) { must(u, u.Remove(u.get("house", 1)), u.Remove(u.get("pet", 2))) }, change(func(v user) { must(v, v.Set(v.get("person", 1), "age", null)) }), api.OK},
		"target":       {func(u user) { must(u, u.Point(u.get("pet", 1), "vet", u.get("person", 2))) }, change(func(v user) { must(v, v.Point(v.get("pet", 2), "vet", 0), v.Flush(), v.Remove(v.get("person", 2))) }), api.ErrConflict},
		"pair there":   {func(u user) { must(u, u.Link(u.get("person", 1), "friends", u.get("person", 2))) }, change(func(v user) { must(v, v.Unlink(v.get("person", 1), "friends", v.get("person", 2))) }), api.ErrConflict},
		"no pair":      {func(u user) { must(u, u.Unlink(u.get("person", 1), "friends", u.get("person", 1))) }, change(func(v user) { must(v, v.Link(v.get("person", 1), "friends", v.get("person", 1))) }), api.ErrConflict},
		"other pair":   {func(u user) { must(u, u.Unlink(u.get("person", 1), "friends", u.get("person", 2))) }, change(func(v user) { must(v, v.Link(v.get("person", 1), "friends", v.get("person", 1))) }), api.OK},
	} {
		u, v := two(t)
		read(u)
		x.mine(u)
		x.other(v)
		if err := u.Commit(); err != x.want {
			t.Error(name, err)
		}
		if x.want == api.OK {
			u.states(api.StateClean)
			continue
		}
		// The session is rolled back.
		u.states(api.StatePast, api.StatePast, api.StatePast)
		expect(t, u.Commit(), api.OK)
		u.find(all("person"))
		must(t, u.Commit())
	}
}

// P7.9: which calls begin a transaction, and which commits the store has.
func TestCommits(t *testing.T) {
	u := visit(t)
	before := u.db.Commits()
	is := func(more int) {
		t.Helper()
		before += more
		expect(t, u.db.Commits(), before)
	}
	must(t, u.Commit())
	u.made("person", 2)
	must(t, u.Set(1, "age", integer(3)), u.Point(1, "mate", 2), u.Flush(), u.Commit(), u.Unlink(1, "friends", 2), u.Commit())
	is(0)
	must(t, u.Save(1), u.Point(1, "mate", 0), u.Flush())
	is(0)
	must(t, u.Commit())
	is(1)
	must(t, u.Commit())
	is(0)
	ann, bob := u.get("person", 1), u.get("person", 2)
	must(t, u.Commit())
	is(1)
	// What is loaded need not be read again.
	u.get("person", 1)
	u.one(ann, "mate")
	must(t, u.Save(ann), u.Set(ann, "name", text("Ann")), u.Commit())
	is(0)
	must(t, u.Link(ann, "friends", bob), u.Commit())
	is(0)
	must(t, u.Hold(ann), u.Commit())
	is(1)
	must(t, u.Hold(ann), u.Flush(), u.Commit())
	is(1)
	u.all(ann, "pets")
	must(t, u.Commit())
	is(1)
	must(t, u.Unlink(ann, "friends", bob), u.Commit())
	is(1)
	u.find(all("person"))
	u.Rollback()
	must(t, u.Commit())
	is(0)
	_, err := u.Find(api.Find{Entity: "x"}, nil)
	want(t, err, api.ErrName)
	_, err = u.Get("x", 1)
	want(t, err, api.ErrName)
	must(t, u.Commit())
	is(0)
	_, err = u.Get("person", 99)
	want(t, err, api.ErrNone)
	must(t, u.Commit())
	is(1)
}

// P7.9: what is left behind a commit, an error of it, and a rollback.
func TestEnds(t *testing.T) {
	u, v := two(t)
	ann := u.get("person", 1)
	free := u.made("person", 1)[0]
	must(t, u.Set(free, "name", text("Eve")), u.Set(ann, "name", text("Amy")), u.Commit())
	u.states(api.StateClean, api.StateFree)
	v.rename(1, "Ada")
	expect(t, u.value(ann, "name"), text("Amy"))
	expect(t, u.object(ann).Version, 4)
	expect(t, u.value(free, "name"), text("Eve"))
	must(t, u.Save(free), u.Commit())
	u.states(api.StateClean, api.StateClean)
	// A flush with an error leaves the transaction as it is.
	must(t, u.Set(free, "name", null))
	want(t, u.Commit(), api.ErrNull)
	v.rename(2, "Ben")
	expect(t, u.value(ann, "mate.name"), text("Bob"))
	must(t, u.Set(free, "name", text("x")), u.Commit())
	u.states(api.StateClean, api.StateClean)
	expect(t, worldOf(t, zoo(t), u.db).Objects[2].Values[0], text("x"))
	// A rollback forgets what was flushed, too.
	must(t, u.Set(free, "name", text("y")), u.Flush(), u.Set(ann, "name", text("y")))
	u.Rollback()
	u.states(api.StatePast, api.StatePast)
	must(t, u.Commit())
	expect(t, worldOf(t, zoo(t), u.db).Objects[2].Values[0], text("x"))
	expect(t, u.value(u.get("person", 1), "name"), text("Ada"))
}

// P7.9: a commit that would make a table too large is undone like one with a conflict.
func TestLargeCommit(t *testing.T) {
	m := model(t, "entity a tenant", "field x int null")
	var w api.World
	for id := range api.MaxObjects - 1 {
		w.Objects = append(w.Objects, api.Object{Entity: "a", Tenant: 1, ID: id + 1, Values: row(null)})
	}
	db := storeOf(t, m, w)
	u, v := useFor(t, m, db, 2, api.LoadLazy), useFor(t, m, db, 3, api.LoadLazy)
	must(t, u.Save(u.made("a", 1)[0]), u.Flush(), v.Save(v.made("a", 1)[0]), v.Flush(), v.Commit())
	want(t, u.Commit(), api.ErrLarge)
	u.states(api.StatePast)
	v.states(api.StateClean)
}

// P7.10: what is written or held must be as it was when it was loaded.
func TestStale(t *testing.T) {
	rename := func(v user) { v.rename(1, "x") }
	gone := func(v user) { must(v, v.Remove(v.get("person", 1)), v.Commit()) }
	for name, x := range map[string]struct {
		mine, other func(u user)
		want        api.Errno
	}{
		"clean":          {func(u user) {}, rename, api.OK},
		"changed":        {func(u user) { must(u, u.Set(1, "age", null)) }, rename, api.ErrStale},
		"removed":        {func(u user) { must(u, u.Remove(1)) }, rename, api.ErrStale},
		"held":           {func(u user) { must(u, u.Hold(1)) }, rename, api.ErrStale},
		"another":        {func(u user) { must(u, u.Hold(2), u.Set(2, "age", integer(4))) }, rename, api.OK},
		"the same value": {func(u user) { must(u, u.Set(1, "name", text("Ann")), u.Save(1), u.Link(1, "friends", 1)) }, rename, api.OK},
		"lost":           {func(u user) { must(u, u.Hold(1)) }, gone, api.ErrStale},
		"lost changed":   {func(u user) { must(u, u.Set(1, "age", null)) }, gone, api.ErrStale},
		"lost clean":     {func(u user) {}, gone, api.OK},
		"house":          {func(u user) { must(u, u.Set(3, "street", text("x"))) }, func(v user) { must(v, v.Remove(v.get("house", 1)), v.Commit()) }, api.ErrStale},
		"house held":     {func(u user) { must(u, u.Hold(3)) }, func(v user) { must(v, v.Remove(v.get("house", 1)), v.Commit()) }, api.ErrStale},
		"no versions":    {func(u user) { must(u, u.Hold(3)) }, func(v user) { must(v, v.Set(v.get("house", 1), "street", text("x")), v.Commit()) }, api.OK},
		"again": {func(u user) { must(u, u.Hold(2)) }, func(v user) {
			must(v, v.Remove(v.get("person", 2)), v.Remove(v.get("pet", 2)), v.Flush(), v.Save(v.made("person", 1)[0]), v.Commit())
		}, api.ErrStale},
	} {
		u, v := two(t)
		expect(t, []int{u.get("person", 1), u.get("person", 2), u.get("house", 1)}, []int{1, 2, 3})
		must(t, u.Commit())
		x.other(v)
		x.mine(u)
		before := []int{0, u.State(1), u.State(2), u.State(3)}
		for _, call := range []func() api.Errno{u.Flush, u.Commit, func() api.Errno { _, err := u.Find(all("pet"), nil); return err }} {
			if err := call(); err != x.want {
				t.Error(name, err)
			}
			if x.want == api.OK {
				break
			}
			u.states(before[1:]...)
		}
	}
}

// P7.10: it must be as it was flushed; behind a flush nothing is held.
func TestHeld(t *testing.T) {
	u, v := two(t)
	ann := u.get("person", 1)
	must(t, u.Set(ann, "age", null), u.Commit(), u.Hold(ann), u.Commit())
	must(t, u.Hold(ann), u.Flush())
	u.Rollback()
	ann = u.get("person", 1)
	must(t, u.Hold(ann), u.Commit())
	v.rename(1, "x")
	must(t, u.Commit(), u.Flush())
	must(t, u.Hold(ann))
	want(t, u.Flush(), api.ErrStale)
	// All does not flush if nothing is to be written.
	expect(t, len(u.all(ann, "pets")), 2)
	want(t, u.Flush(), api.ErrStale)
}

// P7.10: finds, and lists, give clean objects the values of the tables; what was loaded stays as it is otherwise.
func TestRefresh(t *testing.T) {
	for _, way := range []int{api.LoadLazy, api.LoadBatch, api.LoadEager} {
		u := use(t, zoo(t), storeOf(t, zoo(t), family()), way)
		v := use(t, zoo(t), u.db, api.LoadLazy)
		ann, bob, rex, tom := u.get("person", 1), u.get("person", 2), u.get("pet", 1), u.get("pet", 2)
		must(t, u.Commit())
		for i, o := range []int{v.get("person", 1), v.get("person", 2), v.get("pet", 1), v.get("pet", 2)} {
			must(t, v.Set(o, "name", text("new"+string(rune('0'+i)))))
		}
		must(t, v.Commit())
		is := func(h int, name string) {
			t.Helper()
			expect(t, u.value(h, "name"), text(name))
		}
		// Nothing but what is returned is as in the tables.
		expect(t, u.get("person", 1), ann)
		expect(t, u.one(rex, "owner"), ann)
		expect(t, u.value(rex, "owner.name"), text("Ann"))
		f := all("pet")
		f.Where, f.Include = where(t, "equal(:id,1)"), []string{"owner.mate", "owner.pets"}
		expect(t, u.find(f), []int{rex})
		expect(t, u.one(rex, "owner"), ann)
		is(rex, "new2")
		is(tom, "Tom")
		is(ann, "Ann")
		is(bob, "Bob")
		expect(t, u.all(ann, "friends"), []int{bob})
		is(bob, "new1")
		expect(t, u.all(ann, "pets"), []int{rex, tom})
		is(tom, "new3")
		is(ann, "Ann")
		expect(t, u.object(tom).Version, 3)
		must(t, u.Hold(bob), u.Hold(tom), u.Commit())
		// What has changed is not given up.
		v.rename(2, "newer")
		must(t, u.Set(bob, "age", integer(5)))
		want(t, u.Flush(), api.ErrStale)
		is(bob, "new1")
	}
}

// P7.1, P7.10: an object that another session has removed is past when its id is used again.
func TestUsedAgain(t *testing.T) {
	u, v := two(t)
	tom := u.get("pet", 2)
	must(t, u.Commit(), v.Remove(v.get("pet", 2)), v.Commit())
	pet := u.made("pet", 1)[0]
	must(t, u.Set(tom, "name", text("x")), u.Set(tom, "name", text("Tom")), u.Save(pet), u.Flush())
	expect(t, u.object(pet).ID, 2)
	u.states(api.StatePast, api.StateClean)
	expect(t, u.get("pet", 2), pet)
	must(t, u.Commit())
	// If another session has made it, it is the same object for this one, once it is found.
	must(t, v.Remove(v.get("pet", 2)), v.Flush(), v.Save(v.made("pet", 1)[0]), v.Commit())
	expect(t, u.value(pet, "version"), integer(1))
	expect(t, u.find(api.Find{Entity: "pet", Where: where(t, "equal(:id,2)"), Limit: -1}), []int{pet})
}

// P7.8: what another session has removed has no lists, and stands in none. (That it is loaded stays so.)
func TestListsOfLost(t *testing.T) {
	for _, way := range []int{api.LoadLazy, api.LoadBatch} {
		u := use(t, zoo(t), storeOf(t, zoo(t), family()), way)
		v := use(t, zoo(t), u.db, api.LoadLazy)
		oak, ann := u.find(all("house"))[0], u.find(all("person"))[0]
		expect(t, []int{len(u.all(oak, "workers")), len(u.all(oak, "holders")), len(u.all(ann, "pets"))}, []int{1, 1, 2})
		bob := u.get("person", 2)
		must(t, u.Commit(), v.Remove(v.get("house", 1)), v.Flush(), v.Remove(v.get("person", 1)), v.Commit())
		expect(t, u.all(oak, "workers"), []int{})
		expect(t, u.all(oak, "holders"), []int{})
		expect(t, u.all(bob, "keys"), []int{})
		expect(t, u.all(ann, "pets"), []int{})
		expect(t, u.all(ann, "friends"), []int{})
		expect(t, u.all(bob, "friends"), []int{})
		expect(t, u.value(oak, "street"), text("oak"))
		expect(t, u.one(bob, "house"), oak)
		expect(t, u.one(bob, "mate"), ann)
	}
}

// P7.10: of an object without versions only what has changed is written, of one with versions all.
func TestMerge(t *testing.T) {
	m := model(t, "entity a", "field x int", "field y int", "one up a clear", "one down a clear", "entity b of a", "field z int null", "entity c version", "field x int", "field y int")
	w := api.World{Objects: []api.Object{
		{Entity: "a", ID: 1, Values: row(integer(1), integer(1)), Ones: []int{1, 1}},
		{Entity: "b", ID: 2, Values: row(integer(1), integer(1), null), Ones: []int{1, 1}},
		{Entity: "c", ID: 1, Version: 1, Values: row(integer(1), integer(1))},
	}}
	db := storeOf(t, m, w)
	u, v := use(t, m, db, api.LoadLazy), use(t, m, db, api.LoadLazy)
	a, b, c := u.get("a", 1), u.get("b", 2), u.get("c", 1)
	must(t, u.Commit(), v.Set(v.get("a", 1), "x", integer(2)), v.Point(v.get("a", 1), "up", v.get("a", 2)), v.Set(v.get("a", 2), "x", integer(3)), v.Commit())
	// Not by a session, so that the version stays.
	x := db.Begin()
	must(t, x.Update("c", row(integer(1)), row(integer(1), integer(1), integer(9), integer(1))), x.Commit())
	must(t, u.Set(a, "y", integer(5)), u.Point(a, "down", 0), u.Set(b, "z", integer(6)), u.Set(c, "y", integer(7)), u.Commit())
	want := api.World{Objects: []api.Object{
		{Entity: "a", ID: 1, Values: row(integer(2), integer(5)), Ones: []int{2, 0}},
		{Entity: "b", ID: 2, Values: row(integer(3), integer(1), integer(6)), Ones: []int{1, 1}},
		{Entity: "c", ID: 1, Version: 2, Values: row(integer(1), integer(7))},
	}}
	expect(t, worldOf(t, m, db), want)
	expect(t, u.object(a), want.Objects[0])
	expect(t, u.object(b), want.Objects[1])
	// What another session has already written is no change.
	v.Rollback()
	must(t, v.Set(v.get("a", 1), "y", integer(8)), v.Commit(), u.Set(a, "y", integer(8)), u.Flush())
	expect(t, u.State(a), api.StateClean)
}

// P7.13, P7.9: a store can have the table of its migrations; if its schema becomes another one, no transaction begins.
func TestOtherSchema(t *testing.T) {
	m := zoo(t)
	db := storeOf(t, m, family())
	chain := []api.Migration{{Number: 1, Name: "first"}}
	n, err := migrate.Deploy(db, chain)
	must(t, err)
	expect(t, n, 1)
	u := use(t, m, db, api.LoadLazy)
	ann := u.get("person", 1)
	must(t, u.Set(ann, "name", text("Amy")), u.Save(u.made("pet", 1)[0]), u.Commit())
	expect(t, len(worldOf(t, m, db).Objects), 7)
	done, err := migrate.Status(db)
	must(t, err)
	expect(t, len(done), 1)

	must(t, u.Set(ann, "name", text("Ada")), u.Hold(ann))
	x := db.Begin()
	must(t, x.Alter(api.Change{Kind: api.ChAdd, Table: "pet", Column: api.Column{Name: "more", Kind: api.Int, Null: true}}), x.Commit())
	for i, call := range []func() api.Errno{
		u.Flush, u.Commit,
		func() api.Errno { _, err := u.Get("pet", 2); return err },
		func() api.Errno { _, err := u.Find(all("pet"), nil); return err },
		func() api.Errno { _, err := u.One(ann, "mate"); return err },
		func() api.Errno { _, err := u.Value(ann, "mate"); return err },
		func() api.Errno { _, err := u.All(ann, "pets"); return err },
	} {
		if err := call(); err != api.ErrForm {
			t.Error(i, err)
		}
	}
	expect(t, u.value(ann, "name"), text("Ada"))
	u.Rollback()
	must(t, u.Commit())
	if _, err := session.New(m, db, 0, 0, api.LoadLazy, nil); err != api.ErrForm {
		t.Error(err)
	}
}

// Z1: rows that tell no world, which somebody has written by hand, make no panic.
func TestNoWorld(t *testing.T) {
	m := model(t, "entity a", "field x int null", "one up a clear", "many downs a up", "pairs p a", "entity b of a", "entity c apart", "entity d of c", "one to a clear")
	base := api.World{Objects: []api.Object{
		{Entity: "a", ID: 1, Values: row(null), Ones: []int{1}}, {Entity: "b", ID: 2, Values: row(null), Ones: []int{1}}, {Entity: "d", ID: 1, Ones: []int{1}},
	}, Pairs: []api.PairOf{{Entity: "a", Relation: "p", Left: 1, Right: 2}}}
	for i, spoil := range []func(x *store.Txn) api.Errno{
		func(x *store.Txn) api.Errno { return x.Insert("a", row(integer(3), text("nobody"), null, integer(1))) },
		func(x *store.Txn) api.Errno { return x.Insert("a", row(integer(-1), text("a"), null, integer(1))) },
		func(x *store.Txn) api.Errno {
			return x.Batch([]api.RowChange{{Kind: api.RowInsert, Table: "a", Row: row(integer(0), text("a"), null, integer(1))}, {Kind: api.RowUpdate, Table: "a", Key: row(integer(2)), Row: row(integer(2), text("b"), null, integer(0))}})
		},
		func(x *store.Txn) api.Errno {
			return x.Batch([]api.RowChange{{Kind: api.RowInsert, Table: "a", Row: row(integer(-7), text("a"), null, integer(-7))}, {Kind: api.RowUpdate, Table: "a", Key: row(integer(2)), Row: row(integer(2), text("b"), null, integer(-7))}, {Kind: api.RowInsert, Table: "a_p", Row: row(integer(1), integer(-7))}})
		},
		func(x *store.Txn) api.Errno { return x.Delete("d", row(integer(1))) },
		func(x *store.Txn) api.Errno { return x.Update("c", row(integer(1)), row(integer(1), text("a"))) },
	} {
		for way := api.LoadLazy; way <= api.LoadEager; way++ {
			db := storeOf(t, m, base)
			x := db.Begin()
			if err := spoil(x); err != api.OK {
				t.Fatal(i, err)
			}
			must(t, x.Commit())
			s, err := session.New(m, db, 0, 0, way, nil)
			must(t, err)
			for range 8 {
				mustMake(t, s)
			}
			for _, e := range []string{"a", "b", "c", "d"} {
				for id := range 4 {
					s.Get(e, id-1)
				}
				f := all(e)
				if e == "a" {
					f.Include = []string{"up", "downs", "p"}
				}
				s.Find(f, nil)
			}
			for h := 9; s.State(h) != 0; h++ {
				for _, r := range []string{"up", "to"} {
					if to, _ := s.One(h, r); to > 0 && to < 9 {
						t.Error(i, "a row refers to an object that was made")
					}
					s.Value(h, r+".up.up")
				}
				for _, r := range []string{"downs", "p"} {
					s.All(h, r)
				}
				s.Hold(h)
				s.Object(h)
			}
			s.Flush()
			s.Save(mustMake(t, s))
			s.Flush()
			s.Commit()
			s.Rollback()
		}
	}
}

func mustMake(t testing.TB, s *session.Session) int {
	t.Helper()
	h, err := s.Make("a", 0)
	must(t, err)
	return h
}
