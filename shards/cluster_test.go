package shards_test

import (
	"slices"
	"testing"

	"dumbwaiter/api"
	"dumbwaiter/cache"
	"dumbwaiter/query"
	"dumbwaiter/schema"
	"dumbwaiter/session"
	"dumbwaiter/shards"
)

// start is the arguments of New.
type start struct {
	M      api.Model
	Shards int
	Secret string
}

func (x start) new() api.Errno {
	c, err := shards.New(x.M, x.Shards, x.Secret)
	if (c == nil) != (err != api.OK) {
		return -1
	}
	return err
}

// wordy is a model whose schema has no text: it would be too long.
func wordy(t testing.TB) api.Model {
	t.Helper()
	l := []string{"embed e"}
	for i := range 10 {
		l = append(l, "field f"+string(rune('a'+i))+" text default '"+long(api.MaxText)+"'")
	}
	for i := range 16 {
		l = append(l, "entity e"+string(rune('a'+i)))
		for k := range 4 {
			l = append(l, "field g"+string(rune('a'+k))+" embed e")
		}
	}
	return model(t, l...)
}

// P9.1: errors of New, in their order.
func TestNewErrors(t *testing.T) {
	tryFaults(t, start{library(t), 3, "s"}, start.new, []fault[start]{
		{"model", func(x *start) { x.M.Entities[0].Name = "" }, api.ErrName},
		{"shards", func(x *start) { x.Shards = 0 }, api.ErrArg},
		{"shards", func(x *start) { x.Shards = -1 }, api.ErrArg},
		{"shards", func(x *start) { x.Shards = api.MaxShards + 1 }, api.ErrArg},
		{"secret", func(x *start) { x.Secret = "" }, api.ErrArg},
		{"secret", func(x *start) { x.Secret = "\n" }, api.ErrArg},
		{"secret", func(x *start) { x.Secret = long(api.MaxText + 1) }, api.ErrArg},
		{"model", func(x *start) { x.M = wordy(t) }, api.ErrLarge},
	})
	want(t, start{library(t), api.MaxShards, long(api.MaxText)}.new(), api.OK)
	want(t, start{library(t), 1, "~"}.new(), api.OK)
	want(t, start{api.Model{}, 1, "s"}.new(), api.OK)
}

// P9.1: a new cluster has no objects and no tenants, and each shard the tables of the model.
func TestNew(t *testing.T) {
	m := library(t)
	c, err := shards.New(m, 3, "s")
	must(t, err)
	expect(t, c.World(), api.World{})
	expect(t, c.Places(), []api.Place(nil))
	none, err := schema.Rows(m, api.World{})
	must(t, err)
	for shard := range 3 {
		d, err := c.Rows(shard)
		must(t, err)
		expect(t, d, none)
	}
	for _, shard := range []int{-1, 3, 1 << 62, -1 << 63} {
		d, err := c.Rows(shard)
		want(t, err, api.ErrArg)
		expect(t, d, api.Data{})
	}
}

// P9.2: errors of Add, in their order.
func TestAddErrors(t *testing.T) {
	c, err := shards.New(library(t), 3, "s")
	must(t, err, c.Add(5, 1))
	type args struct{ Tenant, Shard int }
	add := func(x args) api.Errno {
		if x == (args{7, 2}) {
			return api.OK // it would be there then
		}
		return c.Add(x.Tenant, x.Shard)
	}
	tryFaults(t, args{7, 2}, add, []fault[args]{
		{"tenant", func(x *args) { x.Tenant = 0 }, api.ErrArg},
		{"tenant", func(x *args) { x.Tenant = -5 }, api.ErrArg},
		{"tenant", func(x *args) { x.Tenant = api.MaxInt + 1 }, api.ErrArg},
		{"shard", func(x *args) { x.Shard = 3 }, api.ErrArg},
		{"shard", func(x *args) { x.Shard = -1 }, api.ErrArg},
		{"tenant", func(x *args) { x.Tenant = 5 }, api.ErrTwice},
	})
	expect(t, len(c.Places()), 1)
	must(t, c.Add(api.MaxInt, 0))
	for n := range api.MaxTenants - 2 {
		must(t, c.Add(10+n, n%3))
	}
	want(t, c.Add(9, 0), api.ErrLarge)
	want(t, c.Add(5, 0), api.ErrTwice)
	want(t, c.Add(9, 3), api.ErrArg)
	expect(t, len(c.Places()), api.MaxTenants)
}

// P9.2: the directory is sorted, and tenants are at home.
func TestPlaces(t *testing.T) {
	c, err := shards.New(library(t), 3, "s")
	must(t, err, c.Add(50, 2), c.Add(7, 0), c.Add(api.MaxInt, 1), c.Add(1, 1))
	home := func(tenant, shard int) api.Place {
		return api.Place{Tenant: tenant, Shard: shard, To: -1, State: api.TenantHome}
	}
	expect(t, c.Places(), []api.Place{home(1, 1), home(7, 0), home(50, 2), home(api.MaxInt, 1)})
	wipe(new(c.Places()))
	expect(t, len(c.Places()), 4)
}

// call is the arguments of Work and Shared.
type call struct {
	Token       api.Token
	Tenant, Now int
	Acts        []api.Act
}

// P9.3: errors of Work, in their order. With an error nothing has happened.
func TestWorkErrors(t *testing.T) {
	c := cluster(t, library(t), 2)
	must(t, c.Add(3, 0), c.Move(3, 1))
	for place(c, 3).State != api.TenantClosed {
		_, err := c.Step(3)
		must(t, err)
	}
	k := key(t, 1, 3, 9)
	sometimes := false // the right call is made but once
	work := func(x call) api.Errno {
		if x.Tenant == 1 && sometimes && len(x.Acts) == 3 && x.Now == 5 && x.Token.Sum == k.Sum && len(x.Token.Tenants) == 3 {
			return api.OK
		}
		sometimes = true
		before := c.World()
		outcomes, err := c.Work(x.Token, x.Tenant, x.Now, x.Acts)
		if err != api.OK {
			expect(t, outcomes, []api.Outcome(nil))
			expect(t, c.World(), before)
		}
		return err
	}
	tryFaults(t, call{k, 1, 5, notes(1)}, work, []fault[call]{
		{"token", func(x *call) { x.Token.Tenants = []int{3, 1} }, api.ErrArg},
		{"now", func(x *call) { x.Now = -1 }, api.ErrArg},
		{"now", func(x *call) { x.Now = api.MaxMoment + 1 }, api.ErrArg},
		{"tenant", func(x *call) { x.Tenant = -1 }, api.ErrArg},
		{"token", func(x *call) { x.Token.Sum++ }, api.ErrSum},
		{"token", func(x *call) { x.Token, _ = cache.Issue("other", nil, 9) }, api.ErrSum},
		{"now", func(x *call) { x.Now = 1001 }, api.ErrTenant},
		{"tenant", func(x *call) { x.Tenant = 2 }, api.ErrTenant},
		{"tenant", func(x *call) { x.Tenant = 0 }, api.ErrTenant},
		{"tenant", func(x *call) { x.Tenant, x.Token = 0, key(t) }, api.ErrArg},
		{"tenant", func(x *call) { x.Tenant = 9 }, api.ErrNone},
		{"tenant", func(x *call) { x.Tenant = 3 }, api.ErrMoving},
		{"acts", func(x *call) { x.Acts = make([]api.Act, api.MaxActs+1) }, api.ErrLarge},
	})
	outcomes, err := c.Work(k, 1, 0, make([]api.Act, api.MaxActs))
	must(t, err)
	expect(t, len(outcomes), api.MaxActs)
	want(t, outcomes[0].Error, api.ErrKind)
}

// P9.3: what is not committed is rolled back; an outcome with an error does not end the acts.
func TestWork(t *testing.T) {
	m := library(t)
	c := cluster(t, m, 2)
	l := append(notes(1), api.Act{Kind: api.ActSet, A: 7}, api.Act{Kind: api.ActMake, Entity: "note"}, api.Act{Kind: api.ActSave, A: 2}, api.Act{Kind: api.ActFlush})
	outcomes, err := c.Work(key(t), 2, 50, l)
	must(t, err)
	expect(t, outcomes, []api.Outcome{{Handles: []int{1}}, {}, {}, {Error: api.ErrArg}, {Handles: []int{2}}, {}, {}})
	one := api.World{Objects: []api.Object{{Entity: "note", Tenant: 2, ID: 1, Version: 1, Values: row(null), Ones: []int{0, 0}}}}
	expect(t, c.World(), one)
	expect(t, worldOf(t, m, c, 1), one)
	expect(t, worldOf(t, m, c, 0), api.World{})
	outcomes, err = c.Work(key(t), 2, 50, nil)
	must(t, err)
	expect(t, len(outcomes), 0)
	// Nothing is left of a transaction: another one can write the same.
	outcomes, err = c.Work(key(t), 2, 50, notes(2))
	done(t, outcomes, err)
	expect(t, len(c.World().Objects), 3)
}

// P9.3: now is the moment of what is removed.
func TestNow(t *testing.T) {
	m := model(t, "entity a soft tenant", "field x int null")
	c := cluster(t, m, 2)
	outcomes, err := c.Work(key(t), 1, 77, []api.Act{{Kind: api.ActMake, Entity: "a"}, {Kind: api.ActSave, A: 1}, {Kind: api.ActCommit}, {Kind: api.ActRemove, A: 1}, {Kind: api.ActCommit}})
	done(t, outcomes, err)
	expect(t, c.World().Objects[0].Gone, moment(77))
}

// books are acts that make some books.
func books(count int) []api.Act {
	var l []api.Act
	for i := range count {
		l = append(l, api.Act{Kind: api.ActMake, Entity: "book"}, api.Act{Kind: api.ActSet, A: i + 1, Name: "name", Value: text("n")}, api.Act{Kind: api.ActSave, A: i + 1})
	}
	return append(l, api.Act{Kind: api.ActCommit})
}

// shelf returns a cluster of the library with two books and two notes of each tenant that refer to the first one.
func shelf(t testing.TB) *shards.Cluster {
	t.Helper()
	c := cluster(t, library(t), 3)
	outcomes, err := c.Shared(key(t), 0, books(2))
	done(t, outcomes, err)
	for tenant := 1; tenant < 3; tenant++ {
		l := append(notes(2)[:4], api.Act{Kind: api.ActGet, Entity: "book", N: 1}, api.Act{Kind: api.ActPoint, A: 1, Name: "book", B: 3}, api.Act{Kind: api.ActLink, A: 2, Name: "likes", B: 1}, api.Act{Kind: api.ActCommit})
		outcomes, err := c.Work(key(t), tenant, 0, l)
		done(t, outcomes, err)
	}
	return c
}

// P9.4: errors of Shared ahead of those of acts, in their order.
func TestSharedErrors(t *testing.T) {
	c := shelf(t)
	shared := func(x call) api.Errno {
		before := c.World()
		outcomes, err := c.Shared(x.Token, x.Now, x.Acts)
		if err != api.OK {
			expect(t, outcomes, []api.Outcome(nil))
		}
		expect(t, c.World(), before)
		return err
	}
	tryFaults(t, call{key(t), 0, 5, []api.Act{{Kind: api.ActGet, Entity: "book", N: 1}}}, shared, []fault[call]{
		{"now", func(x *call) { x.Now = -1 }, api.ErrArg},
		{"token", func(x *call) { x.Token.Sum++ }, api.ErrSum},
		{"now", func(x *call) { x.Now = 1001 }, api.ErrTenant},
		{"token", func(x *call) { x.Token = key(t, 1, 2) }, api.ErrTenant},
		{"acts", func(x *call) { x.Acts = append(x.Acts, make([]api.Act, api.MaxActs)...) }, api.ErrLarge},
		{"act", func(x *call) { x.Acts[0] = api.Act{Kind: api.ActMake, Entity: "note", N: 1} }, api.ErrTenant},
		{"act", func(x *call) { x.Acts[0] = api.Act{Kind: api.ActRemove} }, api.ErrRef},
	})
}

// P9.4: what acts that are played on every shard must not name.
func TestSharedActs(t *testing.T) {
	c := shelf(t)
	find := func(f api.Find) api.Act { return api.Act{Kind: api.ActFind, Find: []api.Find{f}} }
	whereOf := func(s string) api.Act { return find(api.Find{Entity: "book", Limit: -1, Where: where(t, s)}) }
	remove := api.Act{Kind: api.ActRemove, A: 1}
	for i, x := range []struct {
		act  api.Act
		want api.Errno
	}{
		{api.Act{Kind: api.ActMake, Entity: "note"}, api.ErrTenant},
		{api.Act{Kind: api.ActMake, Entity: "memo", N: 1}, api.ErrTenant},
		{api.Act{Kind: api.ActGet, Entity: "note", N: 1}, api.ErrTenant},
		{api.Act{Kind: api.ActGet, Entity: "memo", N: 1}, api.ErrTenant},
		{find(all("note")), api.ErrTenant},
		{find(all("memo")), api.ErrTenant},
		{api.Act{Kind: api.ActFind, Find: []api.Find{all("book"), all("memo")}}, api.ErrTenant},
		{whereOf("some:notes()"), api.ErrTenant},
		{whereOf("and(null(:name),not(less(0,many:next.notes())))"), api.ErrTenant},
		{whereOf("some:near(every:near(some:notes()))"), api.ErrTenant},
		{whereOf("null(:notes.x)"), api.ErrTenant},
		{whereOf("some:near(null(up:notes))"), api.ErrTenant},
		{whereOf("is:book(:next.notes)"), api.ErrTenant},
		{find(api.Find{Entity: "book", Limit: -1, Order: []api.By{{Path: "name"}, {Path: "notes.body"}}}), api.ErrTenant},
		{find(api.Find{Entity: "book", Limit: -1, Include: []string{"next", "next.notes"}}), api.ErrTenant},
		{find(api.Find{Entity: "book", Limit: -1, Include: []string{"near.notes.replies"}}), api.ErrTenant},
		{api.Act{Kind: api.ActAll, A: 1, Name: "notes"}, api.ErrTenant},
		{api.Act{Kind: api.ActLink, A: 1, Name: "notes", B: 1}, api.ErrTenant},
		{api.Act{Kind: api.ActUnlink, A: 1, Name: "notes", B: 1}, api.ErrTenant},
		{api.Act{Kind: api.ActSet, A: 1, Name: "notes"}, api.ErrTenant},
		{api.Act{Kind: api.ActRemove, A: 1, Name: "notes"}, api.ErrTenant},
		{remove, api.ErrRef},
		{api.Act{Kind: api.ActRemove, A: 50}, api.ErrRef},
		// All else can be played.
		{find(all("book")), api.OK},
		{find(all("none")), api.OK},
		{whereOf("some:near(is:novel())"), api.OK},
		{whereOf("is:note()"), api.OK},
		{whereOf("is:notes()"), api.OK},
		{whereOf("null(:replies)"), api.OK},
		{find(api.Find{Entity: "book", Limit: -1, Order: []api.By{{Path: "next.name"}}, Include: []string{"near.next"}}), api.OK},
		{api.Act{Kind: api.ActValue, A: 1, Name: "next.notes"}, api.OK},
		{api.Act{Kind: api.ActAll, A: 1, Name: "near"}, api.OK},
		{api.Act{Kind: api.ActAll, A: 1, Name: "replies"}, api.OK},
		{api.Act{Kind: api.ActSave, Entity: "note"}, api.OK},
		{api.Act{Kind: api.ActSet, A: 1, Name: "name", Value: text("notes")}, api.OK},
		{api.Act{Kind: 99}, api.OK},
	} {
		outcomes, err := c.Shared(key(t), 0, []api.Act{{Kind: api.ActGet, Entity: "book", N: 1}, x.act})
		if err != x.want || err == api.OK && len(outcomes) != 2 {
			t.Error(i, x, err, outcomes)
		}
	}
	// The first act with an error is told.
	_, err := c.Shared(key(t), 0, []api.Act{remove, {Kind: api.ActGet, Entity: "note"}})
	want(t, err, api.ErrRef)
	_, err = c.Shared(key(t), 0, []api.Act{{Kind: api.ActGet, Entity: "note"}, remove})
	want(t, err, api.ErrTenant)
}

// P9.4: what is shared is the same on all shards, and what tenants refer to.
func TestShared(t *testing.T) {
	m := library(t)
	c := shelf(t)
	outcomes, err := c.Shared(key(t), 0, []api.Act{{Kind: api.ActGet, Entity: "book", N: 2}, {Kind: api.ActSet, A: 1, Name: "name", Value: text("x")}, {Kind: api.ActMake, Entity: "novel"}, {Kind: api.ActPoint, A: 2, Name: "next", B: 1}, {Kind: api.ActLink, A: 2, Name: "near", B: 1}, {Kind: api.ActSave, A: 2}, {Kind: api.ActCommit}, {Kind: api.ActValue, A: 2, Name: "id"}, {Kind: api.ActSet, A: 2, Name: "name", Value: text("lost")}})
	done(t, outcomes, err)
	expect(t, outcomes[7].Value, integer(3))
	wanted := api.World{
		Objects: []api.Object{{Entity: "book", ID: 1, Version: 1, Values: row(text("n")), Ones: []int{0}}, {Entity: "book", ID: 2, Version: 2, Values: row(text("x")), Ones: []int{0}}, {Entity: "novel", ID: 3, Version: 1, Values: row(null, integer(9)), Ones: []int{2}}},
		Pairs:   []api.PairOf{{Entity: "book", Relation: "near", Left: 2, Right: 3}},
	}
	for shard := range 3 {
		expect(t, part(worldOf(t, m, c, shard), 0), wanted)
	}
	expect(t, part(c.World(), 0), wanted)
	outcomes, err = c.Work(key(t), 2, 0, []api.Act{{Kind: api.ActGet, Entity: "note", N: 1}, {Kind: api.ActValue, A: 1, Name: "book.name"}, {Kind: api.ActSet, A: 1, Name: "body", Value: text("b")}, {Kind: api.ActGet, Entity: "novel", N: 3}, {Kind: api.ActPoint, A: 1, Name: "book", B: 2}, {Kind: api.ActCommit}})
	done(t, outcomes, err)
	expect(t, outcomes[1].Value, text("n"))
	// A pair that is taken away is so everywhere.
	outcomes, err = c.Shared(key(t), 0, []api.Act{{Kind: api.ActGet, Entity: "book", N: 2}, {Kind: api.ActGet, Entity: "book", N: 3}, {Kind: api.ActUnlink, A: 1, Name: "near", B: 2}, {Kind: api.ActCommit}})
	done(t, outcomes, err)
	for shard := range 3 {
		expect(t, part(worldOf(t, m, c, shard), 0).Pairs, []api.PairOf(nil))
	}
}

// fill gives a tenant so many notes.
func fill(t testing.TB, c *shards.Cluster, tenant, count int) {
	t.Helper()
	for count > 0 {
		n := min(count, (api.MaxActs-1)/2)
		outcomes, err := c.Work(key(t), tenant, 0, notes(n))
		done(t, outcomes, err)
		count -= n
	}
}

// P9.4: what is shared stays the same, even if a shard has more objects than a world then, which only the tenants there see; P9.5: Find and Total then have its ErrLarge.
func TestSharedLarge(t *testing.T) {
	m := model(t, "entity book", "field name text null", "entity note tenant", "field body text null")
	c := cluster(t, m, 2)
	fill(t, c, 2, api.MaxObjects-1)
	outcomes, err := c.Shared(key(t), 0, books(3))
	done(t, outcomes, err)
	expect(t, len(c.World().Objects), api.MaxObjects+2)
	for shard := range 2 {
		d, err := c.Rows(shard)
		must(t, err)
		expect(t, len(d.Tables[0].Rows), 3)
	}
	_, err = c.Find(key(t), 0, all("book"), nil)
	want(t, err, api.ErrLarge)
	_, err = c.Total(key(t), 0, api.Total{Entity: "book", Aggs: []api.Agg{{Op: api.AggRows}}}, nil)
	want(t, err, api.ErrLarge)
	outcomes, err = c.Work(key(t), 2, 0, notes(1))
	must(t, err)
	want(t, outcomes[2].Error, api.ErrLarge)
	outcomes, err = c.Work(key(t), 1, 0, notes(1))
	done(t, outcomes, err)
	outcomes, err = c.Work(key(t), 2, 0, []api.Act{{Kind: api.ActGet, Entity: "note", N: 1}, {Kind: api.ActGet, Entity: "note", N: 2}, {Kind: api.ActGet, Entity: "note", N: 3}, {Kind: api.ActRemove, A: 1}, {Kind: api.ActRemove, A: 2}, {Kind: api.ActRemove, A: 3}, {Kind: api.ActCommit}})
	done(t, outcomes, err)
	outcomes, err = c.Work(key(t), 1, 0, []api.Act{{Kind: api.ActGet, Entity: "note", N: 1}, {Kind: api.ActRemove, A: 1}, {Kind: api.ActCommit}})
	done(t, outcomes, err)
	_, err = c.Find(key(t), 0, all("book"), nil)
	must(t, err)
}

// ask is the arguments of Find and Total.
type ask struct {
	Token api.Token
	Now   int
	F     api.Find
	Q     api.Total
	P     []api.Value
}

// P9.5: errors of Find and Total, in their order.
func TestFindErrors(t *testing.T) {
	c := shelf(t)
	find := func(x ask) api.Errno {
		rows, err := c.Find(x.Token, x.Now, x.F, x.P)
		if err != api.OK {
			expect(t, rows, [][]api.Value(nil))
		}
		return err
	}
	total := func(x ask) api.Errno {
		rows, err := c.Total(x.Token, x.Now, x.Q, x.P)
		if err != api.OK {
			expect(t, rows, [][]api.Value(nil))
		}
		return err
	}
	base := ask{key(t, 2), 5, all("note"), api.Total{Entity: "note", Aggs: []api.Agg{{Op: api.AggRows}}, Tenant: 2}, nil}
	base.F.Tenant = 2
	tenant := func(n int) func(x *ask) { return func(x *ask) { x.F.Tenant, x.Q.Tenant = n, n } }
	faults := []fault[ask]{
		{"now", func(x *ask) { x.Now = -1 }, api.ErrArg},
		{"now", func(x *ask) { x.Now = api.MaxMoment + 1 }, api.ErrArg},
		{"tenant", tenant(-1), api.ErrArg},
		{"tenant", tenant(api.MaxInt + 1), api.ErrArg},
		{"token", func(x *ask) { x.Token.Sum++ }, api.ErrSum},
		{"now", func(x *ask) { x.Now = 1001 }, api.ErrTenant},
		{"tenant", tenant(0), api.ErrTenant},
		{"tenant", tenant(1), api.ErrTenant},
		{"params", func(x *ask) { x.P = row(api.Value{Kind: 9}) }, api.ErrForm},
		{"entity", func(x *ask) { x.F.Entity, x.Q.Entity = "none", "none" }, api.ErrName},
		{"limit", func(x *ask) { x.F.Limit, x.Q.Aggs = -2, nil }, api.ErrArg},
	}
	tryFaults(t, base, find, faults)
	faults[len(faults)-1].want = api.ErrForm
	tryFaults(t, base, total, faults)
	base.Token = key(t)
	tenant(0)(&base)
	want(t, find(base), api.OK)
	want(t, total(base), api.OK)
}

// P9.5: World has all of the cluster in the order of a world; Find and Total answer from it, also for a tenant that is closed.
func TestWorldOfCluster(t *testing.T) {
	m := library(t)
	c := shelf(t)
	must(t, c.Move(2, 2))
	for place(c, 2).State != api.TenantClosed {
		_, err := c.Step(2)
		must(t, err)
	}
	w := c.World()
	must(t, schema.CheckWorld(m, w))
	note := func(tenant, id, book int) api.Object {
		return api.Object{Entity: "note", Tenant: tenant, ID: id, Version: 1, Values: row(null), Ones: []int{book, 0}}
	}
	likes := func(tenant int) api.PairOf {
		return api.PairOf{Entity: "note", Relation: "likes", Tenant: tenant, Left: 2, Right: 1}
	}
	expect(t, part(w, 1), api.World{Objects: []api.Object{note(1, 1, 1), note(1, 2, 0)}, Pairs: []api.PairOf{likes(1)}})
	expect(t, w.Objects[2:], []api.Object{note(1, 1, 1), note(1, 2, 0), note(2, 1, 1), note(2, 2, 0)})
	expect(t, w.Pairs, []api.PairOf{likes(1), likes(2)})
	f := all("note")
	f.Where = where(t, "equal(:book.name,?0)")
	rows, err := c.Find(key(t), 0, f, row(text("n")))
	must(t, err)
	wanted, err := query.Answer(m, w, f, row(text("n")))
	must(t, err)
	expect(t, rows, wanted)
	expect(t, len(rows), 2)
	f.Tenant = 2
	rows, err = c.Find(key(t, 2), 0, f, row(text("n")))
	must(t, err)
	expect(t, []int{len(rows), rows[0][1].N}, []int{1, 2})
	q := api.Total{Entity: "note", Group: []string{"tenant"}, Aggs: []api.Agg{{Op: api.AggRows}, {Op: api.AggCount, Path: "book"}}}
	rows, err = c.Total(key(t), 0, q, nil)
	must(t, err)
	expect(t, rows, [][]api.Value{row(integer(1), integer(2), integer(1)), row(integer(2), integer(2), integer(1))})
	q.Tenant = 1
	rows, err = c.Total(key(t, 1), 0, q, nil)
	must(t, err)
	expect(t, rows, [][]api.Value{row(integer(1), integer(2), integer(1))})
}

// P9.6: a tenant sees what is shared and its own, and what it cannot write is told as Direct does.
func TestTenantOfWork(t *testing.T) {
	m := library(t)
	c := shelf(t)
	acts := []api.Act{
		{Kind: api.ActFind, Find: []api.Find{all("note")}}, {Kind: api.ActFind, Find: []api.Find{all("book")}},
		{Kind: api.ActMake, Entity: "book"}, {Kind: api.ActSet, A: 3, Name: "name", Value: text("x")}, {Kind: api.ActRemove, A: 3},
		{Kind: api.ActMake, Entity: "note", N: 2}, {Kind: api.ActFind, Find: []api.Find{{Entity: "note", Limit: -1, Tenant: 2}}},
		{Kind: api.ActAll, A: 3, Name: "notes"}, {Kind: api.ActRemove, A: 1}, {Kind: api.ActCommit}, {Kind: api.ActAll, A: 3, Name: "notes"},
	}
	wanted, after, err := session.Direct(m, c.World(), 1, 9, nil, acts)
	must(t, err)
	got, err := c.Work(key(t), 1, 9, acts)
	must(t, err)
	expect(t, got, wanted)
	expect(t, c.World(), after)
	errors := []api.Errno{}
	for _, o := range got {
		errors = append(errors, o.Error)
	}
	expect(t, errors, []api.Errno{0, 0, api.ErrTenant, api.ErrTenant, api.ErrTenant, api.ErrTenant, api.ErrTenant, 0, 0, 0, 0})
	expect(t, slices.Equal(got[10].Handles, []int{}), true)
}
