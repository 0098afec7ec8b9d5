package session_test

import (
	"testing"

	"dumbwaiter/api"
)

// P7.8: lists are those of query.Related in what is seen.
func TestLists(t *testing.T) {
	m := model(t,
		"entity a", "pairs out b", "pairs both a both", "pairs from b to", "pairs self a", "many bs b up", "many cs c up",
		"entity b apart soft", "one up a clear", "pairs to a from",
		"entity c of b", "field x int null", "entity d of c",
	)
	db, u := fresh(t, m)
	u.made("a", 3)
	u.made("b", 1)
	u.made("c", 1)
	u.made("d", 1)
	for h := 1; h <= 6; h++ {
		must(t, u.Save(h))
	}
	must(t,
		u.Link(1, "bs", 6), u.Link(1, "bs", 5), u.Link(1, "bs", 4), u.Link(1, "out", 6), u.Link(1, "out", 4), u.Link(2, "out", 4), u.Link(1, "both", 2), u.Link(3, "both", 1), u.Link(3, "both", 3),
		u.Link(1, "from", 5), u.Link(6, "to", 1), u.Link(6, "to", 3), u.Link(1, "self", 2), u.Link(3, "self", 3),
	)
	is := func(h int, relation string, want ...int) {
		t.Helper()
		expect(t, u.all(h, relation), want)
	}
	for range 2 {
		is(1, "bs", 4, 5, 6)
		is(1, "cs", 5, 6)
		is(2, "bs")
		is(1, "out", 4, 6)
		is(2, "out", 4)
		is(3, "out")
		is(1, "both", 2, 3)
		is(2, "both", 1)
		is(3, "both", 1, 3)
		is(1, "from", 5, 6)
		is(3, "from", 6)
		is(5, "to", 1)
		is(6, "to", 1, 3)
		is(1, "self", 2)
		is(2, "self")
		is(3, "self", 3)
		must(t, u.Commit())
	}
	must(t, u.Remove(5), u.Unlink(1, "both", 3), u.Unlink(6, "to", 1))
	is(1, "bs", 4, 6)
	is(1, "cs", 6)
	is(1, "from")
	is(6, "to", 3)
	is(3, "both", 3)
	v := use(t, m, db, api.LoadLazy)
	a := v.get("a", 1)
	expect(t, v.all(a, "from"), []int{2, 3})
	expect(t, v.object(2).Entity, "c")
}

// P7.8: a list is kept until a call changes something.
func TestKeptLists(t *testing.T) {
	for i, x := range []struct {
		call    func(u user) api.Errno
		want    api.Errno
		forgets bool
	}{
		{func(u user) api.Errno { return u.Save(1) }, api.OK, true},
		{func(u user) api.Errno { return u.Save(4) }, api.OK, true},
		{func(u user) api.Errno { return u.Set(1, "age", integer(30)) }, api.OK, true},
		{func(u user) api.Errno { return u.Point(1, "mate", 0) }, api.OK, true},
		{func(u user) api.Errno { return u.Link(1, "friends", 2) }, api.OK, true},
		{func(u user) api.Errno { return u.Link(1, "pets", 3) }, api.OK, true},
		{func(u user) api.Errno { return u.Unlink(1, "friends", 1) }, api.OK, true},
		{func(u user) api.Errno { return u.Unlink(2, "pets", 3) }, api.OK, true},
		{func(u user) api.Errno { return u.Remove(4) }, api.OK, true},
		{func(u user) api.Errno { return u.Commit() }, api.OK, true},
		{func(u user) api.Errno { return u.Save(9) }, api.ErrArg, false},
		{func(u user) api.Errno { return u.Set(1, "age", text("")) }, api.ErrType, false},
		{func(u user) api.Errno { return u.Point(1, "mate", 3) }, api.ErrType, false},
		{func(u user) api.Errno { return u.Link(1, "pets", 2) }, api.ErrType, false},
		{func(u user) api.Errno { return u.Unlink(1, "pets", 0) }, api.ErrArg, false},
		{func(u user) api.Errno { return u.Remove(0) }, api.ErrArg, false},
		{func(u user) api.Errno { return u.Hold(1) }, api.OK, false},
		{func(u user) api.Errno { return u.Flush() }, api.OK, false},
		{func(u user) api.Errno { _, err := u.Make("person", 0); return err }, api.OK, false},
		{func(u user) api.Errno { _, err := u.Value(1, "mate.name"); return err }, api.OK, false},
		{func(u user) api.Errno { _, err := u.One(1, "mate"); return err }, api.OK, false},
		{func(u user) api.Errno { _, err := u.Get("person", 1); return err }, api.OK, false},
	} {
		u := visit(t)
		expect(t, []int{u.get("person", 1), u.get("person", 2), u.get("pet", 1), u.made("person", 1)[0]}, []int{1, 2, 3, 4})
		before := u.Statements() + 2
		for range 2 {
			u.all(1, "pets")
			u.all(2, "friends")
			u.statements(before)
		}
		if err := x.call(u); err != x.want {
			t.Error(i, err)
		}
		if x.forgets {
			before += 2
		}
		u.all(1, "pets")
		u.all(2, "friends")
		if u.Statements() != before {
			t.Error(i, u.Statements(), before)
		}
	}
	u := visit(t)
	u.all(u.get("person", 1), "pets")
	u.Rollback()
	before := u.Statements()
	u.all(u.get("person", 1), "pets")
	u.statements(before + 2)
}
