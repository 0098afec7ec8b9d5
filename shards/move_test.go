package shards_test

import (
	"testing"

	"dumbwaiter/api"
	"dumbwaiter/shards"
)

// work lets a tenant do acts that must have no error.
func work(t testing.TB, c *shards.Cluster, tenant int, acts ...api.Act) {
	t.Helper()
	outcomes, err := c.Work(key(t), tenant, 0, append(acts, api.Act{Kind: api.ActCommit}))
	done(t, outcomes, err)
}

// step makes a step, and returns the state of the tenant then.
func step(t testing.TB, c *shards.Cluster, tenant int) int {
	t.Helper()
	home, err := c.Step(tenant)
	must(t, err)
	state := place(c, tenant).State
	expect(t, home, state == api.TenantHome)
	return state
}

// stepTo makes steps until a tenant is in a state, and returns how many.
func stepTo(t testing.TB, c *shards.Cluster, tenant, state int) int {
	t.Helper()
	for n := 0; ; n++ {
		if place(c, tenant).State == state {
			return n
		}
		if n > 100 {
			t.Fatal("too many steps")
		}
		step(t, c, tenant)
	}
}

// P9.7: errors of Move, in their order, and what it does.
func TestMove(t *testing.T) {
	c := shelf(t)
	must(t, c.Add(3, 2), c.Move(3, 0))
	type args struct{ Tenant, To int }
	move := func(x args) api.Errno {
		if x == (args{1, 2}) {
			return api.OK // it would be moved then
		}
		return c.Move(x.Tenant, x.To)
	}
	tryFaults(t, args{1, 2}, move, []fault[args]{
		{"tenant", func(x *args) { x.Tenant = 9 }, api.ErrNone},
		{"tenant", func(x *args) { x.Tenant = 0 }, api.ErrNone},
		{"tenant", func(x *args) { x.Tenant = 3 }, api.ErrState},
		{"to", func(x *args) { x.To = -1 }, api.ErrArg},
		{"to", func(x *args) { x.To = 3 }, api.ErrArg},
		{"to", func(x *args) { x.To = 0 }, api.ErrArg},
	})
	before, places := c.World(), c.Places()
	must(t, c.Move(1, 2))
	places[0] = api.Place{Tenant: 1, Shard: 0, To: 2, State: api.TenantCopy}
	expect(t, c.Places(), places)
	expect(t, c.World(), before)
	for state := range []int{api.TenantFollow, api.TenantClosed, api.TenantClean} {
		stepTo(t, c, 1, state+api.TenantFollow)
		want(t, c.Move(1, 1), api.ErrState)
	}
	stepTo(t, c, 1, api.TenantHome)
	must(t, c.Move(1, 0))
}

// P9.8: Step has errors for tenants that are not moved.
func TestStepErrors(t *testing.T) {
	c := shelf(t)
	for tenant, err := range map[int]api.Errno{9: api.ErrNone, 0: api.ErrNone, -1: api.ErrNone, 1: api.ErrState} {
		home, got := c.Step(tenant)
		want(t, got, err)
		expect(t, home, false)
		if err == api.ErrState {
			want(t, c.Abort(tenant), err)
		} else {
			want(t, c.Abort(tenant), api.ErrNone)
		}
	}
}

// P9.8, P9.11: what stands where, step by step.
func TestSteps(t *testing.T) {
	m := library(t)
	c := shelf(t)
	w := c.World()
	must(t, c.Move(1, 2))
	there := func(shard int) bool { return len(part(worldOf(t, m, c, shard), 1).Objects) > 0 }
	for _, x := range []struct {
		state, shard, to int
		first, last      bool
	}{
		{api.TenantCopy, 0, 2, true, false}, {api.TenantFollow, 0, 2, true, false}, {api.TenantClosed, 0, 2, true, false}, {api.TenantClean, 2, 0, true, true}, {api.TenantHome, 2, -1, false, true},
	} {
		expect(t, place(c, 1), api.Place{Tenant: 1, Shard: x.shard, To: x.to, State: x.state})
		expect(t, []bool{there(0), there(1), there(2)}, []bool{x.first, false, x.last})
		expect(t, c.World(), w)
		_, err := c.Work(key(t), 1, 0, nil)
		want(t, err, map[bool]api.Errno{true: api.ErrMoving}[x.state == api.TenantClosed])
		if x.last {
			expect(t, part(worldOf(t, m, c, 2), 1), part(w, 1))
		}
		if x.state != api.TenantHome {
			step(t, c, 1)
		}
	}
	expect(t, part(worldOf(t, m, c, 0), 1), api.World{})
	expect(t, part(worldOf(t, m, c, 1), 2), part(w, 2))
}

// P9.8, P9.9: how many steps a tenant with some objects needs.
func TestCountOfSteps(t *testing.T) {
	for count, steps := range map[int]int{0: 1, 1: 1, api.MaxPart - 1: 1, api.MaxPart: 1, api.MaxPart + 1: 2, 2 * api.MaxPart: 2, 2*api.MaxPart + 1: 3, 170: 4} {
		c := cluster(t, library(t), 2)
		fill(t, c, 1, count)
		must(t, c.Move(1, 1))
		expect(t, stepTo(t, c, 1, api.TenantFollow), steps)
		expect(t, stepTo(t, c, 1, api.TenantHome), 3)
		if most := (count+api.MaxPart-1)/api.MaxPart + 4; steps+3 > most {
			t.Error(count, steps)
		}
		expect(t, len(part(worldOf(t, library(t), c, 1), 1).Objects), count)
	}
}

// P9.8: objects are in a copy by family and id; the order is that of the world.
func TestFamilies(t *testing.T) {
	m := model(t, "entity memo tenant", "field body text null", "entity note tenant", "field body text null", "entity letter of note", "field body2 text null", "entity todo tenant", "field body text null")
	c := cluster(t, m, 2)
	make := func(entity string, count int) {
		l := notes(count)
		for i := range l {
			if l[i].Kind == api.ActMake {
				l[i].Entity = entity
			}
		}
		work(t, c, 1, l...)
	}
	change := func(entity string, from, to int) {
		var l []api.Act
		for id := from; id <= to; id++ {
			l = append(l, api.Act{Kind: api.ActGet, Entity: entity, N: id}, api.Act{Kind: api.ActSet, A: id - from + 1, Name: "body", Value: text("x")})
		}
		work(t, c, 1, l...)
	}
	make("todo", 20)
	make("letter", 20)
	make("note", 20)
	make("memo", 30)
	must(t, c.Move(1, 1))
	step(t, c, 1) // the memos, and the letters
	expect(t, place(c, 1).State, api.TenantCopy)
	change("letter", 1, 20)
	change("note", 21, 40)
	change("todo", 1, 20)
	expect(t, step(t, c, 1), api.TenantFollow)
	expect(t, stepTo(t, c, 1, api.TenantClosed), 2) // the letters have changed since
	must(t, c.Abort(1), c.Move(1, 1))
	stepTo(t, c, 1, api.TenantFollow)
	make("todo", 20)
	make("note", 30)
	make("memo", 20)
	step(t, c, 1) // the memos, and the notes
	var l []api.Act
	for i := range 20 {
		l = append(l, api.Act{Kind: api.ActGet, Entity: "todo", N: 21 + i}, api.Act{Kind: api.ActRemove, A: i + 1})
	}
	work(t, c, 1, l...)
	expect(t, stepTo(t, c, 1, api.TenantClosed), 1) // the others were not there yet
	w := c.World()
	stepTo(t, c, 1, api.TenantHome)
	expect(t, c.World(), w)
}

// P9.8: a copy takes objects as they are when they are put into it, the first ones in the order of the world; what has changed since follows.
func TestFollow(t *testing.T) {
	c := cluster(t, library(t), 2)
	body := func(from, to int, s string) {
		var l []api.Act
		for id := from; id <= to; id++ {
			l = append(l, api.Act{Kind: api.ActGet, Entity: "note", N: id}, api.Act{Kind: api.ActSet, A: id - from + 1, Name: "body", Value: text(s)})
		}
		work(t, c, 1, l...)
	}
	remove := func(from, to int) {
		var l []api.Act
		for id := from; id <= to; id++ {
			l = append(l, api.Act{Kind: api.ActGet, Entity: "note", N: id}, api.Act{Kind: api.ActRemove, A: id - from + 1})
		}
		work(t, c, 1, l...)
	}
	follows := func(steps int) {
		t.Helper()
		expect(t, place(c, 1).State, api.TenantFollow)
		expect(t, stepTo(t, c, 1, api.TenantClosed), steps)
		must(t, c.Abort(1), c.Move(1, 1))
	}
	fill(t, c, 1, 120)
	must(t, c.Move(1, 1))
	// Changed ahead of its copying: nothing follows.
	step(t, c, 1)
	body(51, 120, "a")
	stepTo(t, c, 1, api.TenantFollow)
	follows(1)
	// Changed behind it, and back again.
	stepTo(t, c, 1, api.TenantFollow)
	body(1, 60, "b")
	follows(3)
	step(t, c, 1)
	body(1, 50, "c")
	remove(1, 10)
	body(51, 60, "c")
	stepTo(t, c, 1, api.TenantFollow)
	follows(2)
	// Removed and new ones count, too: 10 changed, 30 removed, 11 new.
	stepTo(t, c, 1, api.TenantFollow)
	body(11, 20, "d")
	remove(61, 90)
	fill(t, c, 1, 11)
	follows(3)
	stepTo(t, c, 1, api.TenantFollow)
	body(11, 20, "e")
	remove(91, 120)
	fill(t, c, 1, 10)
	follows(2)
	// The first ones are brought up first: what changes again behind that is asked again.
	stepTo(t, c, 1, api.TenantFollow)
	body(11, 60, "f")
	fill(t, c, 1, 10)
	step(t, c, 1) // 11 to 60
	body(11, 11, "g")
	follows(2) // 11 and the new ones
	// An id that another object has got is not equal.
	stepTo(t, c, 1, api.TenantFollow)
	last := part(c.World(), 1).Objects
	id := last[len(last)-1].ID
	work(t, c, 1, api.Act{Kind: api.ActGet, Entity: "note", N: id}, api.Act{Kind: api.ActRemove, A: 1}, api.Act{Kind: api.ActCommit}, api.Act{Kind: api.ActMake, Entity: "memo"}, api.Act{Kind: api.ActSave, A: 2})
	last = part(c.World(), 1).Objects
	expect(t, [2]any{last[len(last)-1].ID, last[len(last)-1].Entity} == [2]any{id, "memo"}, true)
	follows(2)
	w := c.World()
	stepTo(t, c, 1, api.TenantHome)
	expect(t, c.World(), w)
	expect(t, worldOf(t, library(t), c, 1), w)
}

// P9.8: pairs alone do not follow, but come with the switch.
func TestPairsFollow(t *testing.T) {
	c := shelf(t)
	must(t, c.Move(1, 1))
	stepTo(t, c, 1, api.TenantFollow)
	work(t, c, 1, api.Act{Kind: api.ActGet, Entity: "note", N: 1}, api.Act{Kind: api.ActGet, Entity: "note", N: 2}, api.Act{Kind: api.ActLink, A: 1, Name: "likes", B: 2}, api.Act{Kind: api.ActUnlink, A: 2, Name: "likes", B: 1}, api.Act{Kind: api.ActLink, A: 1, Name: "likes", B: 1})
	expect(t, step(t, c, 1), api.TenantClosed)
	stepTo(t, c, 1, api.TenantHome)
	likes := func(left, right int) api.PairOf {
		return api.PairOf{Entity: "note", Relation: "likes", Tenant: 1, Left: left, Right: right}
	}
	expect(t, part(worldOf(t, library(t), c, 1), 1).Pairs, []api.PairOf{likes(1, 1), likes(1, 2)})
}

// P9.8: work between the switch and the cleaning is done on the new shard.
func TestWorkBehindSwitch(t *testing.T) {
	m := library(t)
	c := shelf(t)
	must(t, c.Move(1, 1))
	stepTo(t, c, 1, api.TenantClean)
	old := part(worldOf(t, m, c, 0), 1)
	work(t, c, 1, api.Act{Kind: api.ActGet, Entity: "note", N: 1}, api.Act{Kind: api.ActRemove, A: 1})
	work(t, c, 1, notes(3)[:6]...)
	expect(t, part(worldOf(t, m, c, 0), 1), old)
	w := c.World()
	expect(t, len(part(w, 1).Objects), 4)
	stepTo(t, c, 1, api.TenantHome)
	expect(t, c.World(), w)
	expect(t, part(worldOf(t, m, c, 0), 1), api.World{})
}

// P9.8: ErrLarge if a table of the new shard would have too many rows; nothing changes then.
func TestLargeMove(t *testing.T) {
	m := model(t, "entity note tenant", "field body text null")
	c := cluster(t, m, 2)
	fill(t, c, 2, api.MaxRows-1)
	fill(t, c, 1, 2)
	must(t, c.Move(1, 1))
	stepTo(t, c, 1, api.TenantClosed)
	w, places := c.World(), c.Places()
	for range 2 {
		home, err := c.Step(1)
		want(t, err, api.ErrLarge)
		expect(t, home, false)
		expect(t, c.World(), w)
		expect(t, c.Places(), places)
		d, err := c.Rows(1)
		must(t, err)
		expect(t, len(d.Tables[0].Rows), api.MaxRows-1)
	}
	work(t, c, 2, api.Act{Kind: api.ActGet, Entity: "note", N: 1}, api.Act{Kind: api.ActRemove, A: 1})
	expect(t, step(t, c, 1), api.TenantClean)
	expect(t, step(t, c, 1), api.TenantHome)
	d, err := c.Rows(1)
	must(t, err)
	expect(t, len(d.Tables[0].Rows), api.MaxRows)
	expect(t, len(c.World().Objects), api.MaxRows)
}

// P9.8: a shard can have more objects than a world, if none of its tables has too many rows.
func TestFullShard(t *testing.T) {
	m := model(t, "entity note tenant", "field body text null", "entity memo tenant", "field body text null")
	c := cluster(t, m, 2)
	fill(t, c, 2, 3000)
	for range 15 {
		l := notes(200)
		for i := range l {
			if l[i].Kind == api.ActMake {
				l[i].Entity = "memo"
			}
		}
		work(t, c, 1, l...)
	}
	must(t, c.Move(1, 1))
	stepTo(t, c, 1, api.TenantHome)
	expect(t, len(c.World().Objects), 6000)
	_, err := c.Find(key(t), 0, all("note"), nil)
	want(t, err, api.ErrLarge)
	outcomes, err := c.Work(key(t), 1, 0, notes(1))
	must(t, err)
	want(t, outcomes[2].Error, api.ErrLarge)
	must(t, c.Move(1, 0))
	stepTo(t, c, 1, api.TenantHome)
	outcomes, err = c.Work(key(t), 1, 0, notes(1))
	done(t, outcomes, err)
}

// P9.10: Abort ends a move that has not been switched.
func TestAbort(t *testing.T) {
	for _, state := range []int{api.TenantCopy, api.TenantFollow, api.TenantClosed} {
		c := cluster(t, library(t), 2)
		fill(t, c, 1, 70)
		w, places := c.World(), c.Places()
		must(t, c.Move(1, 1))
		stepTo(t, c, 1, state)
		if state == api.TenantCopy {
			step(t, c, 1)
		}
		must(t, c.Abort(1))
		expect(t, c.Places(), places)
		expect(t, c.World(), w)
		want(t, c.Abort(1), api.ErrState)
		_, err := c.Step(1)
		want(t, err, api.ErrState)
		// The copy is forgotten.
		must(t, c.Move(1, 1))
		expect(t, stepTo(t, c, 1, api.TenantFollow), 2)
		stepTo(t, c, 1, api.TenantClean)
		want(t, c.Abort(1), api.ErrState)
		stepTo(t, c, 1, api.TenantHome)
		want(t, c.Abort(1), api.ErrState)
		expect(t, c.World(), w)
	}
}

// P9.10: a crash ends the copies alone.
func TestCrash(t *testing.T) {
	for state := api.TenantHome; state <= api.TenantClean; state++ {
		c := cluster(t, library(t), 2)
		outcomes, err := c.Shared(key(t), 0, books(2))
		done(t, outcomes, err)
		fill(t, c, 1, 120)
		outcomes, err = c.Work(key(t), 1, 0, notes(1)[:2]) // not committed
		done(t, outcomes, err)
		if state != api.TenantHome {
			must(t, c.Move(1, 1))
			step(t, c, 1)
			stepTo(t, c, 1, state)
		}
		w, places := c.World(), c.Places()
		rows := []api.World{worldOf(t, library(t), c, 0), worldOf(t, library(t), c, 1)}
		c.Crash()
		if state >= api.TenantCopy && state <= api.TenantClosed {
			places[0].State = api.TenantCopy
		}
		expect(t, c.Places(), places)
		expect(t, c.World(), w)
		expect(t, []api.World{worldOf(t, library(t), c, 0), worldOf(t, library(t), c, 1)}, rows)
		if places[0].State == api.TenantCopy {
			expect(t, stepTo(t, c, 1, api.TenantFollow), 3) // the copy was empty
		}
		work(t, c, 1, notes(1)[:2]...)
		if state != api.TenantHome {
			stepTo(t, c, 1, api.TenantHome)
			expect(t, place(c, 1).Shard, 1)
		}
		c.Crash()
		expect(t, len(part(c.World(), 1).Objects), 121)
	}
}
