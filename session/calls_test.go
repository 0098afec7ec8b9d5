package session_test

import (
	"testing"

	"dumbwaiter/api"
)

// P7.3: Make.
func TestMake(t *testing.T) {
	m := offices(t)
	for _, x := range []struct {
		session int
		entity  string
		tenant  int
		want    api.Errno
	}{
		{0, "room", 0, api.OK}, {0, "desk", 1, api.OK}, {0, "lamp", api.MaxInt, api.OK}, {5, "desk", 0, api.OK}, {5, "desk", 5, api.OK},
		{0, "sofa", 0, api.ErrName}, {5, "", 9, api.ErrName},
		{5, "room", 0, api.ErrTenant}, {5, "room", 5, api.ErrTenant}, {0, "room", 1, api.ErrTenant}, {0, "room", -1, api.ErrTenant}, {5, "desk", 6, api.ErrTenant}, {5, "desk", -1, api.ErrTenant},
		{0, "desk", 0, api.ErrArg}, {0, "desk", -1, api.ErrArg}, {0, "desk", api.MaxInt + 1, api.ErrArg},
	} {
		u := useFor(t, m, storeOf(t, m, floor()), x.session, api.LoadLazy)
		h, err := u.Make(x.entity, x.tenant)
		want(t, err, x.want)
		if err != api.OK {
			expect(t, h, 0)
			continue
		}
		expect(t, h, 1)
		u.states(api.StateFree)
		if tenant := max(x.session, x.tenant); x.entity != "room" {
			expect(t, u.object(h).Tenant, tenant)
			expect(t, u.value(h, "tenant"), integer(tenant))
		}
	}
}

// P7.3: all slots of a new object have their Defaults.
func TestDefaults(t *testing.T) {
	_, u := fresh(t, model(t, "embed em", "field a int default 4", "field b moment null", "entity top", "field x text", "field y embed em", "field sum int = add(:y.a,1)", "entity low of top", "field z text default 'q' texts 'p' 'q'", "field v embed em", "one w top refuse", "entity other", "field x text default 'o'"))
	h := u.made("low", 1)[0]
	expect(t, u.object(h), api.Object{Entity: "low", Values: row(null, integer(4), null, text("q"), integer(4), null), Ones: []int{0}})
	expect(t, u.value(h, "sum"), integer(5))
	_, u = fresh(t, zoo(t))
	h = u.made("worker", 1)[0]
	expect(t, u.object(h), api.Object{Entity: "worker", Values: row(text("nn"), null, null, integer(7), integer(5)), Ones: []int{0, 0}})
}

// P7.3: a session gives no more than MaxHandles handles, and a call that would give more gives none.
func TestMaxHandles(t *testing.T) {
	u := visit(t)
	ann := u.get("person", 1)
	u.made("person", api.MaxHandles-2)
	before := u.Statements()
	l, err := u.Find(all("pet"), nil)
	want(t, err, api.ErrLarge)
	expect(t, l, []int{})
	expect(t, u.Statements(), before)
	l, err = u.All(ann, "pets")
	want(t, err, api.ErrLarge)
	expect(t, l, []int{})
	rex := u.get("pet", 1)
	expect(t, rex, api.MaxHandles)
	for _, call := range []func() (int, api.Errno){
		func() (int, api.Errno) { return u.Make("person", 0) },
		func() (int, api.Errno) { return u.Get("pet", 2) },
		func() (int, api.Errno) { return u.One(ann, "mate") },
	} {
		h, err := call()
		want(t, err, api.ErrLarge)
		expect(t, h, 0)
	}
	_, err = u.Make("dragon", 0)
	want(t, err, api.ErrName)
	expect(t, u.get("pet", 1), rex)
	expect(t, u.find(api.Find{Entity: "pet", Limit: 1}), []int{rex})
	expect(t, u.one(rex, "owner"), ann)
	expect(t, u.value(ann, "mate.name"), text("Bob"))
}

// P7.3: Get.
func TestGet(t *testing.T) {
	m := offices(t)
	db := storeOf(t, m, floor())
	for _, x := range []struct {
		session int
		entity  string
		id      int
		want    api.Errno
	}{
		{0, "room", 1, api.OK}, {1, "room", 1, api.OK}, {1, "desk", 2, api.OK}, {2, "lamp", 2, api.OK}, {2, "desk", 2, api.OK},
		{0, "sofa", 1, api.ErrName}, {0, "desk", 1, api.ErrTenant}, {0, "lamp", 9, api.ErrTenant},
		{2, "lamp", 1, api.ErrNone}, {2, "desk", 3, api.ErrNone}, {1, "desk", 3, api.ErrNone}, {3, "desk", 1, api.ErrNone},
		{0, "room", 0, api.ErrNone}, {0, "room", -1, api.ErrNone}, {0, "room", api.MaxInt + 1, api.ErrNone}, {0, "room", -api.MaxInt - 1, api.ErrNone}, {2, "desk", 0, api.ErrNone},
	} {
		u := useFor(t, m, db, x.session, api.LoadLazy)
		h, err := u.Get(x.entity, x.id)
		if err != x.want || (h == 1) != (err == api.OK) {
			t.Error(x, h, err)
		}
	}
	u := visit(t)
	ann := u.get("person", 1)
	u.made("person", 1)
	must(t, u.Remove(ann))
	for _, id := range []int{1, -2} {
		_, err := u.Get("person", id)
		want(t, err, api.ErrNone)
	}
}

// P7.3: Find.
func TestFind(t *testing.T) {
	u := visit(t)
	find := func(s string, params ...api.Value) []int {
		t.Helper()
		return u.find(api.Find{Entity: "pet", Where: where(t, s), Limit: -1}, params...)
	}
	expect(t, u.find(api.Find{Entity: "pet", Order: []api.By{{Path: "name", Desc: true}}, Limit: -1}), []int{1, 2})
	expect(t, find("equal(:name,?0)", text("Rex")), []int{2})
	expect(t, find("equal(:name,?0)", null), []int{})
	expect(t, find("null(?0)", null), []int{2, 1})
	expect(t, find("some:owner.friends(equal(:name,coalesce(?1,?0)))", text("Bob"), null), []int{2, 1})
	expect(t, find("and(same(:id,?1),true)", text("x"), integer(2)), []int{1})
	// What has changed is found.
	must(t, u.Set(2, "name", text("Kit")))
	expect(t, find("equal(:name,'Kit')"), []int{2})
	u.states(api.StateClean, api.StateClean)

	good := api.Find{Entity: "pet", Limit: -1}
	bad := text("x")
	bad.N = 1
	for _, x := range []struct {
		f      func(f *api.Find)
		params []api.Value
		want   api.Errno
	}{
		{func(f *api.Find) { f.Entity = "x" }, row(bad), api.ErrForm},
		{func(f *api.Find) { f.Entity = "x"; f.Gone = true }, nil, api.ErrName},
		{func(f *api.Find) { f.Where = where(t, "?0") }, row(text("x")), api.ErrType},
		{func(f *api.Find) { f.Where = where(t, "?0") }, row(null), api.OK},
		{func(f *api.Find) { f.Where = where(t, "?1"); f.Gone = true }, row(null), api.ErrArg},
		{func(f *api.Find) { f.Limit = -2; f.Gone = true }, nil, api.ErrArg},
		{func(f *api.Find) { f.Include = []string{"x"}; f.Gone = true }, nil, api.ErrName},
		{func(f *api.Find) { f.Gone = true }, nil, api.ErrForm},
		{func(f *api.Find) { f.Tenant = 3 }, nil, api.OK},
	} {
		f := good
		x.f(&f)
		_, err := u.Find(f, x.params)
		want(t, err, x.want)
	}
}

// P7.3: Find with tenants, and the errors of a flush behind those of the find.
func TestFindTenants(t *testing.T) {
	m := offices(t)
	u := useFor(t, m, storeOf(t, m, floor()), 2, api.LoadLazy)
	for _, x := range []struct {
		tenant int
		gone   bool
		want   api.Errno
	}{{0, false, api.OK}, {2, false, api.OK}, {1, true, api.ErrTenant}, {2, true, api.ErrForm}} {
		_, err := u.Find(api.Find{Entity: "desk", Limit: -1, Tenant: x.tenant, Gone: x.gone}, nil)
		want(t, err, x.want)
	}
	_, u = fresh(t, model(t, "entity a", "field x text"))
	must(t, u.Save(u.made("a", 1)[0]))
	_, err := u.Find(api.Find{Entity: "a", Limit: -1, Gone: true}, nil)
	want(t, err, api.ErrForm)
	before := u.Statements()
	l, err := u.Find(all("a"), nil)
	want(t, err, api.ErrNull)
	expect(t, l, []int{})
	expect(t, u.Statements(), before)
	u.states(api.StateNew)
}

// P7.3: the errors that every call with a handle has.
func TestHandleErrors(t *testing.T) {
	u := visit(t)
	ann, bob, rex := u.get("person", 1), u.get("person", 2), u.get("pet", 1)
	gone := u.made("person", 1)[0]
	must(t, u.Remove(gone), u.Remove(rex))
	strict := []func(h int) api.Errno{
		u.Save,
		func(h int) api.Errno { return u.Set(h, "x", text("\n")) },
		func(h int) api.Errno { return u.Point(h, "x", 99) },
		func(h int) api.Errno { return u.Link(h, "x", 99) },
		func(h int) api.Errno { return u.Unlink(h, "x", 99) },
		u.Remove,
		u.Hold,
	}
	loose := []func(h int) api.Errno{
		func(h int) api.Errno { _, err := u.Value(h, "id"); return err },
		func(h int) api.Errno { _, err := u.One(h, "owner"); return err },
		func(h int) api.Errno { _, err := u.Object(h); return err },
	}
	missing := []func(h int) api.Errno{
		func(h int) api.Errno { _, err := u.Value(h, "x"); return err },
		func(h int) api.Errno { _, err := u.One(h, "x"); return err },
		func(h int) api.Errno { _, err := u.All(h, "x"); return err },
	}
	for i, call := range append(append(strict, loose...), missing...) {
		for h, e := range map[int]api.Errno{0: api.ErrArg, -1: api.ErrArg, gone + 1: api.ErrArg, api.MaxInt: api.ErrArg, gone: api.ErrState} {
			if got := call(h); got != e {
				t.Error(i, h, got, e)
			}
		}
	}
	for _, call := range strict {
		want(t, call(rex), api.ErrState)
	}
	for _, call := range loose {
		want(t, call(rex), api.OK)
	}
	for _, call := range missing {
		want(t, call(rex), api.ErrName)
		want(t, call(ann), api.ErrName)
	}
	expect(t, u.State(bob), api.StateClean)
}

// P7.3: Save.
func TestSave(t *testing.T) {
	u := visit(t)
	ann, made := u.get("person", 1), u.made("person", 1)[0]
	for range 2 {
		must(t, u.Save(ann), u.Save(made))
		u.states(api.StateClean, api.StateNew)
	}
	must(t, u.Set(ann, "name", text("x")), u.Save(ann))
	u.states(api.StateChanged, api.StateNew)
}

// P7.3: Value.
func TestValue(t *testing.T) {
	u := visit(t)
	ann, bob := u.get("person", 1), u.get("person", 2)
	for path, want := range map[string]api.Value{
		"name": text("Ann"), "id": integer(1), "version": integer(3), "home.city": text("Ulm"), "adult": boolean(1), "mate": integer(2), "mate.mate": integer(1),
		"mate.mate.mate.mate.name": text("Ann"), "mate.mate.mate.mate.mate": integer(2), "mate.adult": null, "mate.home.zip": integer(7), "mate.id": integer(2), "mate.version": integer(1),
	} {
		if got := u.value(ann, path); got != want {
			t.Error(path, got)
		}
	}
	expect(t, u.value(bob, "house.street"), text("oak"))
	expect(t, u.value(bob, "house.gone"), null)
	expect(t, u.value(bob, "pay"), integer(9))
	for path, e := range map[string]api.Errno{
		"": api.ErrName, "pay": api.ErrName, "home": api.ErrName, "pets": api.ErrName, "mate.": api.ErrName, "gone": api.ErrName, "tenant": api.ErrName, "mate.pay": api.ErrName,
		"mate.mate.mate.mate.mate.name": api.ErrLarge, "mate.mate.mate.mate.mate.x": api.ErrLarge,
	} {
		v, err := u.Value(ann, path)
		if err != e || v != null {
			t.Error(path, v, err)
		}
	}
}

// P7.3: Set.
func TestSet(t *testing.T) {
	u := visit(t)
	ann := u.get("person", 1)
	long := text("")
	for range api.MaxText + 1 {
		long.S += "x"
	}
	bad := integer(1)
	bad.S = "x"
	for _, x := range []struct {
		slot string
		v    api.Value
		want api.Errno
	}{
		{"name", text("x"), api.OK}, {"name", null, api.OK}, {"home.zip", integer(-1), api.OK}, {"age", null, api.OK},
		{"x", text("x"), api.ErrName}, {"mate", integer(1), api.ErrName}, {"home", null, api.ErrName}, {"id", integer(1), api.ErrName}, {"version", integer(1), api.ErrName}, {"pay", integer(1), api.ErrName}, {"adult", boolean(1), api.ErrName}, {"mate.name", text("x"), api.ErrName}, {"pets", null, api.ErrName},
		{"name", integer(1), api.ErrType}, {"age", text("1"), api.ErrType}, {"name", bad, api.ErrForm}, {"age", bad, api.ErrForm}, {"name", long, api.ErrLarge}, {"age", integer(api.MaxInt + 1), api.ErrArg}, {"name", text("\n"), api.ErrArg}, {"name", api.Value{Kind: 9}, api.ErrForm},
	} {
		before := u.object(ann)
		if err := u.Set(ann, x.slot, x.v); err != x.want {
			t.Error(x, err)
		}
		if x.want != api.OK {
			expect(t, u.object(ann), before)
		} else {
			expect(t, u.value(ann, x.slot), x.v)
		}
	}
	m := offices(t)
	u = useFor(t, m, storeOf(t, m, floor()), 1, api.LoadLazy)
	room := u.get("room", 1)
	for _, err := range []api.Errno{
		u.Set(room, "x", text("\n")), u.Point(room, "x", 9), u.Point(room, "next", 0), u.Link(room, "x", 9), u.Link(room, "desks", 9), u.Unlink(room, "desks", 9), u.Remove(room),
	} {
		want(t, err, api.ErrTenant)
	}
	must(t, u.Save(room), u.Hold(room))
	u.states(api.StateClean)
}

// P7.3: One and Point.
func TestPoint(t *testing.T) {
	u := visit(t)
	ann, bob, rex, oak := u.get("person", 1), u.get("person", 2), u.get("pet", 1), u.get("house", 1)
	past, tom := u.made("person", 1)[0], u.get("pet", 2)
	must(t, u.Remove(past), u.Remove(tom))
	for _, x := range []struct {
		h        int
		relation string
		to       int
		want     api.Errno
	}{
		{rex, "owner", bob, api.OK}, {rex, "vet", bob, api.OK}, {rex, "vet", 0, api.OK}, {bob, "house", oak, api.OK}, {bob, "mate", bob, api.OK},
		{rex, "x", 99, api.ErrName}, {ann, "house", oak, api.ErrName}, {ann, "pets", rex, api.ErrName}, {ann, "friends", bob, api.ErrName}, {ann, "name", 0, api.ErrName}, {rex, "owner.mate", ann, api.ErrName},
		{rex, "owner", 99, api.ErrArg}, {rex, "owner", -1, api.ErrArg}, {rex, "owner", past, api.ErrState}, {rex, "owner", tom, api.ErrState},
		{rex, "owner", rex, api.ErrType}, {rex, "vet", ann, api.ErrType}, {rex, "vet", oak, api.ErrType},
	} {
		before := u.object(x.h)
		if err := u.Point(x.h, x.relation, x.to); err != x.want {
			t.Error(x, err)
		}
		if x.want != api.OK {
			expect(t, u.object(x.h), before)
			continue
		}
		expect(t, u.one(x.h, x.relation), x.to)
	}
	for _, relation := range []string{"x", "pets", "friends", "name", "house", ""} {
		h, err := u.One(ann, relation)
		want(t, err, api.ErrName)
		expect(t, h, 0)
	}
	m := offices(t)
	u = use(t, m, storeOf(t, m, floor()), api.LoadLazy)
	l := u.find(all("desk"))
	want(t, u.Point(l[0], "side", l[2]), api.ErrTenant)
	want(t, u.Point(l[0], "side", u.get("room", 1)), api.ErrType)
	must(t, u.Point(l[0], "side", l[1]), u.Point(l[0], "room", u.get("room", 1)), u.Commit())
	expect(t, u.object(l[0]).Ones, []int{1, 2})
}

// P7.3: Link and Unlink.
func TestLink(t *testing.T) {
	for _, linked := range []bool{true, false} {
		u := visit(t)
		bind := func(h int, relation string, to int) api.Errno {
			if linked {
				return u.Link(h, relation, to)
			}
			return u.Unlink(h, relation, to)
		}
		ann, bob, rex, oak := u.get("person", 1), u.get("person", 2), u.get("pet", 1), u.get("house", 1)
		past, tom := u.made("person", 1)[0], u.get("pet", 2)
		must(t, u.Remove(past), u.Remove(tom))
		for _, x := range []struct {
			h        int
			relation string
			to       int
			want     api.Errno
		}{
			{ann, "x", 99, api.ErrName}, {rex, "owner", 99, api.ErrName}, {ann, "keys", oak, api.ErrName}, {ann, "name", 0, api.ErrName},
			{ann, "pets", 0, api.ErrArg}, {ann, "friends", 0, api.ErrArg}, {ann, "pets", 99, api.ErrArg}, {ann, "pets", tom, api.ErrState}, {ann, "friends", past, api.ErrState},
			{ann, "pets", bob, api.ErrType}, {ann, "friends", rex, api.ErrType}, {oak, "holders", ann, api.ErrType}, {bob, "keys", rex, api.ErrType}, {oak, "workers", ann, api.ErrType},
			{ann, "pets", rex, api.OK}, {ann, "friends", ann, api.OK}, {bob, "keys", oak, api.OK}, {oak, "holders", bob, api.OK}, {oak, "workers", bob, api.OK}, {bob, "friends", ann, api.OK},
		} {
			if err := bind(x.h, x.relation, x.to); err != x.want {
				t.Error(linked, x, err)
			}
		}
		m := offices(t)
		u = use(t, m, storeOf(t, m, floor()), api.LoadLazy)
		l, room := u.find(all("desk")), u.get("room", 1)
		want(t, bind(l[0], "near", l[2]), api.ErrTenant)
		want(t, bind(l[0], "sides", l[2]), api.ErrTenant)
		must(t, bind(l[0], "seen", room), bind(room, "desks", l[2]), bind(l[0], "near", l[1]), bind(l[0], "sides", l[1]))
	}
}

// P7.3: what Link and Unlink do.
func TestLinked(t *testing.T) {
	u := visit(t)
	ann, bob, rex, oak := u.get("person", 1), u.get("person", 2), u.get("pet", 1), u.get("house", 1)
	must(t, u.Unlink(bob, "pets", rex))
	expect(t, u.one(rex, "owner"), ann)
	must(t, u.Link(bob, "pets", rex))
	expect(t, u.one(rex, "owner"), bob)
	must(t, u.Unlink(bob, "pets", rex))
	expect(t, u.one(rex, "owner"), 0)
	must(t, u.Unlink(bob, "pets", rex), u.Link(ann, "pets", rex))
	expect(t, u.State(rex), api.StateClean)
	// The last call for a pair counts, from whichever side it is made.
	expect(t, u.all(bob, "keys"), []int{oak})
	must(t, u.Link(bob, "keys", oak), u.Unlink(oak, "holders", bob))
	expect(t, u.all(bob, "keys"), []int{})
	expect(t, u.all(oak, "holders"), []int{})
	must(t, u.Unlink(oak, "holders", bob), u.Link(oak, "holders", bob), u.Link(bob, "keys", oak))
	expect(t, u.all(oak, "holders"), []int{bob})
	expect(t, u.all(ann, "friends"), []int{bob})
	must(t, u.Unlink(bob, "friends", ann))
	expect(t, u.all(ann, "friends"), []int{})
	must(t, u.Link(bob, "friends", bob), u.Link(bob, "friends", ann))
	expect(t, u.all(bob, "friends"), []int{ann, bob})
	expect(t, u.all(ann, "friends"), []int{bob})
}

// P7.3: Remove.
func TestRemove(t *testing.T) {
	u := visit(t)
	ann, rex := u.get("person", 1), u.get("pet", 1)
	l := u.made("person", 2)
	must(t, u.Save(l[0]), u.Point(rex, "owner", l[0]), u.Point(l[1], "mate", l[0]), u.Link(ann, "friends", l[0]), u.Link(l[1], "friends", l[1]))
	must(t, u.Remove(ann), u.Remove(l[0]), u.Remove(l[1]))
	u.states(api.StateRemoved, api.StateChanged, api.StatePast, api.StatePast)
	expect(t, u.object(rex).Ones, []int{0, 0})
	must(t, u.Commit())
	u.states(api.StatePast, api.StateClean, api.StatePast, api.StatePast)
	expect(t, len(u.find(all("person"))), 1)
	// The Free object that was pointed at is not referred to any more, and its pairs are not linked.
	h := u.made("person", 1)[0]
	must(t, u.Link(h, "friends", h), u.Remove(h), u.Commit())
}

// P7.3: Hold.
func TestHold(t *testing.T) {
	u := visit(t)
	ann, rex := u.get("person", 1), u.get("pet", 1)
	l := u.made("person", 2)
	must(t, u.Save(l[1]), u.Set(rex, "name", text("x")))
	want(t, u.Hold(l[0]), api.ErrState)
	want(t, u.Hold(l[1]), api.ErrState)
	must(t, u.Hold(ann), u.Hold(rex), u.Hold(rex))
	u.states(api.StateClean, api.StateChanged, api.StateFree, api.StateNew)
}

// P7.3: All.
func TestAll(t *testing.T) {
	u := visit(t)
	ann, bob, rex := u.get("person", 1), u.get("person", 2), u.get("pet", 1)
	l := u.made("person", 2)
	must(t, u.Save(l[1]))
	for _, x := range []struct {
		h        int
		relation string
		want     api.Errno
	}{{ann, "x", api.ErrName}, {ann, "mate", api.ErrName}, {ann, "name", api.ErrName}, {ann, "keys", api.ErrName}, {l[0], "mate", api.ErrName}, {l[0], "pets", api.ErrState}, {ann, "pets", api.OK}, {l[1], "pets", api.OK}} {
		got, err := u.All(x.h, x.relation)
		want(t, err, x.want)
		if err != api.OK {
			expect(t, got, []int{})
		}
	}
	u.states(api.StateClean, api.StateClean, api.StateClean, api.StateFree, api.StateClean)
	expect(t, u.all(l[1], "pets"), []int{})
	// A pair to be added is to be written, too.
	must(t, u.Link(l[0], "friends", l[0]))
	_, err := u.All(ann, "pets")
	want(t, err, api.ErrRef)
	must(t, u.Unlink(l[0], "friends", l[0]))
	expect(t, u.all(ann, "friends"), []int{bob})
	// A flush can fail, or remove the object.
	must(t, u.Set(rex, "name", text("Tom")))
	_, err = u.All(bob, "pets")
	want(t, err, api.ErrKey)
	_, err = u.All(l[0], "pets")
	want(t, err, api.ErrState)
	must(t, u.Remove(ann))
	_, err = u.All(ann, "pets")
	want(t, err, api.ErrState)
	u.states(api.StateRemoved, api.StateClean, api.StateChanged)
	m := model(t, "entity a", "many l b up", "entity b", "one up a cascade", "many down c up", "entity c", "one up b cascade")
	_, v := fresh(t, m)
	a, b := v.made("a", 1)[0], v.made("b", 1)[0]
	must(t, v.Save(a), v.Save(b), v.Point(b, "up", a), v.Flush(), v.Remove(a))
	_, err = v.All(b, "down")
	want(t, err, api.ErrState)
	v.states(api.StatePast, api.StatePast)
}
