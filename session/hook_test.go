package session_test

import (
	"strings"
	"testing"

	"dumbwaiter/api"
	"dumbwaiter/session"
)

// hooked returns a session with hooks on a store with a world.
func hooked(t testing.TB, m api.Model, w api.World, hooks ...api.Hook) user {
	t.Helper()
	db := storeOf(t, m, w)
	s, err := session.New(m, db, 0, 100, api.LoadLazy, hooks)
	must(t, err)
	return user{t, s, db}
}

// list reads scalar expressions.
func list(t testing.TB, l ...string) []api.Expr {
	t.Helper()
	var out []api.Expr
	for _, s := range l {
		out = append(out, exprs(t, s)...)
	}
	return out
}

// sets is a hook that sets a slot; refuses one that refuses.
func sets(t testing.TB, entity, slot, e string) api.Hook {
	t.Helper()
	return api.Hook{Entity: entity, When: api.HookSave, Slot: slot, Set: exprs(t, e)}
}

func refuses(t testing.TB, entity string, when int, e string) api.Hook {
	t.Helper()
	return api.Hook{Entity: entity, When: when, Refuse: exprs(t, e)}
}

// P7.7: the errors of hooks.
func TestCheckHooks(t *testing.T) {
	m := offices(t)
	good := api.Hook{Entity: "lamp", When: api.HookSave, Slot: "name", Set: exprs(t, "concat(:name,cast.3(:on))"), Refuse: exprs(t, "and(less(:id,:version),less(:tenant,1))")}
	check := func(l []api.Hook) api.Errno { return session.CheckHooks(m, l) }
	set := func(l ...string) func(h *api.Hook) {
		return func(h *api.Hook) { h.Set = list(t, l...) }
	}
	refuse := func(l ...string) func(h *api.Hook) {
		return func(h *api.Hook) { h.Refuse = list(t, l...) }
	}
	slot := func(s string) func(h *api.Hook) {
		return func(h *api.Hook) { h.Slot = s }
	}
	when := func(n int) func(h *api.Hook) {
		return func(h *api.Hook) { h.When = n }
	}
	// Each one is asked ahead of those behind it. Those that change the same cannot be combined.
	faults := []struct {
		changes string
		change  func(h *api.Hook)
		want    api.Errno
	}{
		{"entity", func(h *api.Hook) { h.Entity = "sofa" }, api.ErrName},
		{"when", when(0), api.ErrKind}, {"when", when(3), api.ErrKind},
		{"set", set("null", "null"), api.ErrForm}, {"refuse", refuse("null", "null"), api.ErrForm}, {"slot set", set(), api.ErrForm}, {"slot set", slot(""), api.ErrForm},
		{"slot set refuse", func(h *api.Hook) { h.Slot, h.Set, h.Refuse = "", nil, nil }, api.ErrForm},
		{"when", when(api.HookRemove), api.ErrForm},
		{"slot", slot("nothing"), api.ErrName}, {"slot", slot("room"), api.ErrName}, {"slot", slot("id"), api.ErrName},
		{"set", set(":nothing"), api.ErrName}, {"set", set("?0"), api.ErrArg}, {"set", set("not(1)"), api.ErrType},
		{"refuse", refuse(":room"), api.ErrName}, {"refuse", refuse(":gone"), api.ErrName}, {"refuse", refuse("?0"), api.ErrArg},
		{"set", set("1"), api.ErrType}, {"refuse", refuse(":name"), api.ErrType},
	}
	want(t, check([]api.Hook{good, good}), api.OK)
	for i, a := range faults {
		for k := i; k < len(faults); k++ {
			b := faults[k]
			if k > i && (strings.Contains(b.changes, a.changes) || strings.Contains(a.changes, b.changes)) {
				continue
			}
			h := clone(good)
			b.change(&h)
			a.change(&h)
			if got := check([]api.Hook{good, h, {}}); got != a.want {
				t.Error(i, k, got, a.want)
			}
		}
	}
	for i, x := range []struct {
		h    api.Hook
		want api.Errno
	}{
		{sets(t, "lamp", "on", "null"), api.OK}, {sets(t, "desk", "name", "null"), api.OK}, {refuses(t, "desk", api.HookRemove, "null"), api.OK},
		{sets(t, "desk", "on", "true"), api.ErrName}, {refuses(t, "desk", api.HookSave, ":on"), api.ErrName},
		{refuses(t, "room", api.HookSave, "equal(:version,1)"), api.ErrName}, {refuses(t, "room", api.HookSave, "equal(:tenant,1)"), api.ErrName}, {refuses(t, "room", api.HookRemove, "equal(:id,1)"), api.OK},
	} {
		if got := check([]api.Hook{x.h}); got != x.want {
			t.Error(i, got, x.want)
		}
	}
	var many []api.Hook
	for range api.MaxHooks {
		many = append(many, good)
	}
	want(t, check(many), api.OK)
	want(t, check(append(many, api.Hook{})), api.ErrLarge)
	want(t, check(nil), api.OK)
	m.Entities[0].Name = "X"
	want(t, check(nil), api.ErrName)
}

// P7.7: hooks set values, one after another.
func TestHooksSet(t *testing.T) {
	m := zoo(t)
	u := hooked(t, m, family(),
		sets(t, "person", "name", "concat(:name,'1')"), sets(t, "worker", "name", "concat(:name,'2')"), sets(t, "person", "name", "concat(:name,'3')"),
		sets(t, "person", "home.city", "concat(cast.3(:id),cast.3(:version))"), sets(t, "pet", "name", "concat(:name,'x')"),
	)
	ann, bob, rex := u.get("person", 1), u.get("person", 2), u.get("pet", 1)
	kid := u.made("worker", 1)[0]
	must(t, u.Save(kid), u.Set(ann, "age", null), u.Flush())
	expect(t, u.value(ann, "name"), text("Ann13"))
	expect(t, u.value(ann, "home.city"), text("13"))
	expect(t, u.value(bob, "name"), text("Bob"))
	expect(t, u.value(rex, "name"), text("Rex"))
	expect(t, u.value(kid, "name"), text("nn123"))
	expect(t, u.value(kid, "home.city"), text("30"))
	u.states(api.StateClean, api.StateClean, api.StateClean, api.StateClean)
	must(t, u.Commit())
	expect(t, worldOf(t, m, u.db).Objects[0].Values[0], text("Ann13"))
	// Also for what a removal clears, whether it was loaded or not.
	house, _ := u.One(bob, "house")
	must(t, u.Remove(ann), u.Remove(house), u.Commit())
	expect(t, worldOf(t, m, u.db).Objects[0], api.Object{Entity: "worker", ID: 2, Version: 2, Values: row(text("Bob123"), null, text("21"), integer(7), integer(9)), Ones: []int{0, 1}})
	expect(t, u.value(bob, "home.city"), text("21"))
}

// P7.7: a value that the slot cannot have is null, or an error of schema.CheckWorld.
func TestHooksNull(t *testing.T) {
	m := model(t, "entity a version", "field x text null", "field y int null", "field z text default 'p' texts 'p'", "entity b of a", "field w int null")
	u := hooked(t, m, api.World{}, sets(t, "a", "x", "null"), sets(t, "a", "y", "div(1,sub(:y,3))"))
	a := u.made("a", 1)[0]
	must(t, u.Set(a, "x", text("q")), u.Set(a, "y", integer(3)), u.Save(a), u.Flush())
	expect(t, u.object(a).Values, row(null, null, text("p")))
	// A hook can undo what has changed: then nothing is written.
	must(t, u.Set(a, "x", text("q")))
	u.states(api.StateChanged)
	must(t, u.Flush())
	u.states(api.StateClean)
	expect(t, u.object(a).Version, 1)
	expect(t, u.object(a).Values[0], null)
	u = hooked(t, m, api.World{}, sets(t, "a", "z", "'q'"))
	must(t, u.Save(u.made("b", 1)[0]))
	want(t, u.Flush(), api.ErrArg)
	u = hooked(t, m, api.World{}, sets(t, "a", "z", "lower(null)"))
	must(t, u.Save(u.made("b", 1)[0]))
	want(t, u.Flush(), api.ErrNull)
}

// P7.7: hooks refuse.
func TestHooksRefuse(t *testing.T) {
	m := zoo(t)
	try := func(want api.Errno, do func(u user), hooks ...api.Hook) {
		t.Helper()
		u := hooked(t, m, family(), hooks...)
		for i, h := range []int{u.get("person", 1), u.get("person", 2), u.get("pet", 1), u.get("house", 1)} {
			expect(t, h, i+1)
		}
		do(u)
		var before []int
		for h := range 9 {
			before = append(before, u.State(h))
		}
		if err := u.Commit(); err != want {
			t.Error(err, want)
		}
		for h, state := range before {
			if want != api.OK && u.State(h) != state {
				t.Error(h, u.State(h), state)
			}
		}
	}
	save, remove := api.HookSave, api.HookRemove
	change := func(u user) { must(u, u.Set(2, "age", integer(1))) }
	try(api.ErrRefused, change, refuses(t, "person", save, "true"))
	try(api.ErrRefused, change, refuses(t, "worker", save, "equal(:pay,9)"))
	try(api.OK, change, refuses(t, "worker", save, "null"), refuses(t, "pet", save, "true"), refuses(t, "person", remove, "true"), refuses(t, "house", save, "true"))
	try(api.ErrRefused, change, sets(t, "worker", "pay", "6"), refuses(t, "worker", save, "equal(:pay,6)"))
	try(api.OK, change, refuses(t, "worker", save, "equal(:pay,6)"), sets(t, "worker", "pay", "6"))
	both := sets(t, "worker", "pay", "6")
	both.Refuse = exprs(t, "equal(:pay,6)")
	try(api.ErrRefused, change, both)
	// New objects have their ids, and the version 0.
	born := func(u user) { must(u, u.Save(u.made("person", 1)[0])) }
	try(api.ErrRefused, born, refuses(t, "person", save, "and(equal(:id,3),equal(:version,0))"))
	try(api.OK, born, refuses(t, "person", save, "unequal(:id,3)"), refuses(t, "worker", save, "true"))
	// Of what goes, only what the program has removed is asked.
	gone := func(u user) { must(u, u.Remove(1)) }
	try(api.ErrRefused, gone, refuses(t, "person", remove, "equal(:version,3)"))
	try(api.OK, gone, refuses(t, "pet", remove, "true"), refuses(t, "person", save, "equal(:id,1)"), refuses(t, "worker", remove, "true"))
	try(api.ErrRefused, gone, refuses(t, "worker", save, "true"))
	try(api.ErrRefused, func(u user) { must(u, u.Set(4, "street", text("x")), u.Remove(4)) }, refuses(t, "house", remove, "equal(:street,'x')"))
	try(api.OK, func(u user) { must(u, u.Set(4, "street", text("x")), u.Remove(4)) }, refuses(t, "house", remove, "equal(:street,'oak')"), refuses(t, "house", save, "true"))
	// First all that is saved is asked, in the order of the world, then what goes.
	order := func(u user) { must(u, u.Remove(1), u.Set(4, "street", text("\"")), u.Save(u.made("pet", 1)[0])) }
	try(api.OK, order, refuses(t, "person", remove, "false"))
	for _, hooks := range [][]api.Hook{{sets(t, "pet", "name", "null"), refuses(t, "person", remove, "true")}} {
		try(api.ErrRefused, order, hooks...)
	}
}
