package cache_test

import (
	"slices"
	"testing"

	"dumbwaiter/api"
	"dumbwaiter/cache"
	"dumbwaiter/query"
	"dumbwaiter/session"
	"dumbwaiter/store"
)

// stored is a store with the shelf, and a novel and a memo.
func stored(t testing.TB) (api.Model, api.World, *store.Store) {
	t.Helper()
	m, w := library(t), shelf()
	w.Objects = slices.Insert(w.Objects, 2, api.Object{Entity: "novel", ID: 3, Version: 1, Values: row(text("c"), integer(7)), Ones: []int{1}})
	w.Objects = append(w.Objects, api.Object{Entity: "memo", Tenant: 2, ID: 5, Version: 4, Values: row(text("m"), moment(6)), Ones: []int{0, 1}})
	return m, w, storeOf(t, m, w)
}

// change plays acts on a session for all tenants, and commits.
func change(t testing.TB, m api.Model, db *store.Store, acts ...api.Act) {
	t.Helper()
	s, err := session.New(m, db, 0, 100, api.LoadLazy, nil)
	must(t, err)
	for _, out := range session.Play(s, append(acts, api.Act{Kind: api.ActCommit})) {
		must(t, out.Error)
	}
}

// rename is acts that give the objects of a find another text.
func rename(f api.Find, slot, s string) []api.Act {
	return []api.Act{{Kind: api.ActFind, Find: []api.Find{f}}, {Kind: api.ActSet, A: 1, Name: slot, Value: text(s)}}
}

// one is the find of the object of an entity with an id, of a tenant.
func one(t testing.TB, entity string, tenant, id int) api.Find {
	f := all(entity)
	f.Where = where(t, "equal(:id,1)")
	f.Where[0].Args[1].Value.N = id
	f.Tenant = tenant
	return f
}

// P8.8: the errors of NewReader in their order.
func TestNewReader(t *testing.T) {
	type args struct {
		M           api.Model
		Other       bool
		Tenant, Now int
	}
	base, _, db := stored(t)
	other := storeOf(t, model(t, "entity book", "field name text"), api.World{})
	try := func(x args) api.Errno {
		d := db
		if x.Other {
			d = other
		}
		r, err := cache.NewReader(x.M, d, newCache(t, 1, 0), x.Tenant, x.Now)
		if (r == nil) != (err != api.OK) {
			t.Error(r, err)
		}
		return err
	}
	tryFaults(t, args{M: base, Tenant: 1, Now: 1}, try, []fault[args]{
		{"m", func(x *args) { x.M.Entities[0].Name = "A" }, api.ErrName},
		{"db", func(x *args) { x.Other = true }, api.ErrForm},
		{"tenant", func(x *args) { x.Tenant = -1 }, api.ErrArg},
		{"tenant", func(x *args) { x.Tenant = api.MaxInt + 1 }, api.ErrArg},
		{"now", func(x *args) { x.Now = -1 }, api.ErrArg},
		{"now", func(x *args) { x.Now = api.MaxMoment + 1 }, api.ErrArg},
	})
	want(t, try(args{M: base, Tenant: api.MaxInt, Now: api.MaxMoment}), api.OK)
	want(t, try(args{M: base}), api.OK)
	// The model is not kept.
	m := clone(base)
	r, err := cache.NewReader(m, db, newCache(t, 1, 0), 1, 0)
	must(t, err)
	wipe(&m)
	_, err = r.Get("book", 1, true)
	must(t, err)
}

// P8.8: a store can have a table of migrations.
func TestHistory(t *testing.T) {
	m, w, _ := stored(t)
	s := tables(t, m)
	i, _ := slices.BinarySearchFunc(s.Tables, "history_", func(x api.Table, name string) int {
		if x.Name < name {
			return -1
		}
		return 1
	})
	s.Tables = slices.Insert(s.Tables, i, api.Table{Name: "history_", Columns: []api.Column{{Name: "number", Kind: api.Int}, {Name: "sum", Kind: api.Text}}, Key: []string{"number"}})
	db := filled(t, s, m, w)
	x := db.Begin()
	must(t, x.Insert("history_", row(integer(1), text("x"))), x.Commit())
	r, _ := reader(t, m, db, 0)
	o, err := r.Get("book", 1, false)
	must(t, err)
	expect(t, o, w.Objects[0])
	_, notes := r.Work(append(rename(one(t, "book", 0, 1), "name", "n"), api.Act{Kind: api.ActCommit}))
	expect(t, notes, []api.Note{{Number: 3, Refs: []api.Ref{{Entity: "book", ID: 1}}, Tags: []api.Tag{{Entity: "book"}}}})
}

// P8.8: Get, from the store and from the cache.
func TestGet(t *testing.T) {
	m, w, db := stored(t)
	r, c := reader(t, m, db, 2)
	get := func(entity string, id int, strict bool, e api.Errno, wanted api.Object, queries int) {
		t.Helper()
		before := r.Queries()
		o, err := r.Get(entity, id, strict)
		want(t, err, e)
		expect(t, o, wanted)
		expect(t, r.Queries()-before, queries)
	}
	none := api.Object{}
	for _, strict := range []bool{false, true} {
		get("dragon", 1, strict, api.ErrName, none, 0)
		get("", 1, strict, api.ErrName, none, 0)
		get("book", 9, strict, api.ErrNone, none, 1)
		get("novel", 1, strict, api.ErrNone, none, 1)
		get("note", 2, strict, api.ErrNone, none, 1)
		get("memo", 1, strict, api.ErrNone, none, 1)
		get("book", -1<<63, strict, api.ErrNone, none, 1)
	}
	expect(t, c.Len(), 0)
	// What was read is kept, and found for the entity and those that it is below.
	get("book", 3, false, api.OK, w.Objects[2], 1)
	get("book", 3, false, api.OK, w.Objects[2], 0)
	get("novel", 3, false, api.OK, w.Objects[2], 0)
	get("note", 5, false, api.OK, w.Objects[6], 1)
	get("memo", 5, false, api.OK, w.Objects[6], 0)
	get("note", 1, true, api.OK, w.Objects[5], 1)
	get("memo", 1, false, api.ErrNone, none, 1)
	get("note", 1, false, api.OK, w.Objects[5], 0)
	has(t, c, w.Objects[2], w.Objects[6], w.Objects[5])
	// Strict sees what there is now, and so do others from then on.
	change(t, m, db, rename(one(t, "note", 2, 1), "body", "new")...)
	now := clone(w.Objects[5])
	now.Version, now.Values[0] = 2, text("new")
	get("note", 1, false, api.OK, w.Objects[5], 0)
	get("note", 1, true, api.OK, now, 1)
	get("note", 1, false, api.OK, now, 0)
	// What is removed, or gone, is only there for the cache.
	change(t, m, db, append(rename(one(t, "book", 0, 3), "name", "x"), api.Act{Kind: api.ActRemove, A: 1})...)
	get("book", 3, false, api.OK, w.Objects[2], 0)
	get("book", 3, true, api.ErrNone, none, 1)
	get("book", 3, false, api.OK, w.Objects[2], 0)
	must(t, c.Hear(api.Note{Number: 2}), c.Hear(api.Note{Number: 3, Refs: []api.Ref{{Entity: "novel", ID: 3}}}))
	get("book", 3, false, api.ErrNone, none, 1)
	// A cache gives nothing to a reader of another tenant, but what has no tenant; with 0 there is no object of a tenant.
	get("book", 1, false, api.OK, w.Objects[0], 1)
	shared := c
	for _, tenant := range []int{1, 0} {
		var err api.Errno
		r, err = cache.NewReader(m, db, shared, tenant, 0)
		must(t, err)
		get("book", 1, false, api.OK, w.Objects[0], 0)
		if tenant == 1 {
			get("note", 1, false, api.OK, w.Objects[3], 1)
			get("note", 5, false, api.ErrNone, none, 1)
			continue
		}
		get("note", 1, false, api.ErrTenant, none, 0)
		get("memo", 9, true, api.ErrTenant, none, 0)
	}
}

// P8.8: what is read has the number of commits of the store.
func TestAge(t *testing.T) {
	m, w, db := stored(t)
	change(t, m, db, rename(one(t, "book", 0, 2), "name", "x")...)
	c := newCache(t, 9, 0)
	r, err := cache.NewReader(m, db, c, 0, 0)
	must(t, err)
	_, err = r.Get("book", 1, false)
	must(t, err)
	_, err = r.Find(one(t, "book", 0, 3), nil, false)
	must(t, err)
	label, err := cache.Label(m, one(t, "book", 0, 3), nil)
	must(t, err)
	expect(t, []bool{c.Keep(w.Objects[0], 1), c.Keep(w.Objects[2], 1), c.KeepList(label, nil, nil, 1)}, []bool{false, false, false})
	expect(t, []bool{c.Keep(w.Objects[0], 2), c.Keep(w.Objects[2], 2), c.KeepList(label, nil, nil, 2)}, []bool{true, true, true})
	// A cache that has heard of more than the store keeps nothing of it.
	c = newCache(t, 9, 3)
	r, err = cache.NewReader(m, db, c, 0, 0)
	must(t, err)
	for range 2 {
		o, err := r.Get("book", 1, false)
		must(t, err)
		expect(t, o, w.Objects[0])
	}
	expect(t, []int{c.Len(), r.Queries()}, []int{0, 2})
}

// P8.8: Find, from the store and from the cache.
func TestFind(t *testing.T) {
	m, w, db := stored(t)
	r, c := reader(t, m, db, 2)
	find := func(f api.Find, params []api.Value, strict bool, queries int, wanted ...api.Object) {
		t.Helper()
		before := r.Queries()
		g := clone(f)
		l, err := r.Find(f, params, strict)
		must(t, err)
		expect(t, l, wanted)
		expect(t, r.Queries()-before, queries)
		expect(t, f, g)
		wipe(&l)
	}
	byName := all("book")
	byName.Order = []api.By{{Path: "name", Desc: true}}
	find(byName, nil, false, 1, w.Objects[2], w.Objects[1], w.Objects[0])
	find(byName, nil, false, 0, w.Objects[2], w.Objects[1], w.Objects[0])
	byName.Tenant = 2
	find(byName, nil, false, 0, w.Objects[2], w.Objects[1], w.Objects[0])
	byName.Order[0].Desc = false
	find(byName, nil, false, 1, w.Objects[:3]...)
	find(all("note"), nil, false, 1, w.Objects[5:]...)
	find(all("memo"), nil, false, 1, w.Objects[6])
	// Lists, and their objects.
	expect(t, c.Len(), 4+5)
	f := all("note")
	f.Where = where(t, "equal(:body,?0)")
	find(f, row(text("z")), false, 1, w.Objects[5])
	find(f, row(text("none")), false, 1)
	find(f, row(null), false, 1)
	find(f, row(text("z")), false, 0, w.Objects[5])
	find(f, row(text("none")), false, 0)
	find(f, row(null), false, 0)
	find(f, row(text("z")), true, 1, w.Objects[5])
	find(f, row(text("z"), null), false, 1, w.Objects[5])
	o, err := r.Get("note", 1, false)
	must(t, err)
	expect(t, o, w.Objects[5])
	// Strict sees what there is now, and so do others from then on.
	change(t, m, db, rename(one(t, "note", 2, 1), "body", "none")...)
	now := clone(w.Objects[5])
	now.Version, now.Values[0] = 2, text("none")
	find(f, row(text("none")), false, 0)
	find(f, row(text("none")), true, 1, now)
	find(f, row(text("none")), false, 0, now)
	find(f, row(text("z")), false, 0, w.Objects[5])
	o, err = r.Get("note", 1, false)
	must(t, err)
	expect(t, o, now)
	// A notice forgets lists by what they depend on.
	must(t, c.Hear(api.Note{Number: 2, Tags: []api.Tag{{Entity: "note", Tenant: 2}}}))
	find(f, row(text("none")), false, 0, now)
	find(f, row(text("z")), false, 1)
	find(byName, nil, false, 0, w.Objects[:3]...)
}

// P8.8: what of a find can be kept.
func TestKeptFinds(t *testing.T) {
	m, w, db := stored(t)
	// A list is used ahead of its objects: with few entries it goes first.
	c := newCache(t, 3, 0)
	r, err := cache.NewReader(m, db, c, 0, 0)
	must(t, err)
	read := func(f api.Find, params []api.Value, queries, entries int) {
		t.Helper()
		for range 2 {
			_, err := r.Find(f, params, false)
			must(t, err)
		}
		expect(t, []int{r.Queries(), c.Len()}, []int{queries, entries})
	}
	read(all("book"), nil, 2, 3)
	has(t, c, w.Objects[0], w.Objects[1], w.Objects[2])
	read(all("memo"), nil, 3, 3)
	has(t, c, w.Objects[2], w.Objects[6], "find memo\n")
	// What has no text has no label, but objects.
	f := all("book")
	f.Where = where(t, "equal(:name,?59)")
	f.Where[0].Args[1].N = api.MaxParams
	params := make([]api.Value, api.MaxParams+1)
	params[api.MaxParams] = text("a")
	want(t, second(cache.Label(m, f, params)), api.ErrArg)
	c = newCache(t, 9, 0)
	r, err = cache.NewReader(m, db, c, 0, 0)
	must(t, err)
	read(f, params, 2, 1)
	has(t, c, w.Objects[0])
	// A reader of all tenants and one of a tenant have the same list of this tenant.
	g := all("note")
	g.Tenant = 1
	read(g, nil, 3, 4)
	r, err = cache.NewReader(m, db, c, 1, 0)
	must(t, err)
	read(all("note"), nil, 0, 4)
	r, err = cache.NewReader(m, db, c, 0, 0)
	must(t, err)
	read(all("note"), nil, 1, 4+1+2)
}

// P8.8: a reader reads as much, and as often, as is asked.
func TestManyReads(t *testing.T) {
	m := library(t)
	var w api.World
	for id := range api.MaxObjects {
		w.Objects = append(w.Objects, book(id+1, 1, id, "x"))
	}
	db := storeOf(t, m, w)
	r, _ := reader(t, m, db, 0)
	for n := range 3 {
		l, err := r.Find(all("book"), nil, true)
		must(t, err)
		expect(t, l, w.Objects)
		o, err := r.Get("book", api.MaxObjects, true)
		must(t, err)
		expect(t, o, w.Objects[api.MaxObjects-1])
		expect(t, r.Queries(), 2*n+2)
	}
}

// P8.8: the errors of Find in their order, whether the cache has a list or not.
func TestErrorsOfFind(t *testing.T) {
	m, _, db := stored(t)
	type args struct {
		F      api.Find
		Params []api.Value
	}
	base := args{api.Find{Entity: "note", Where: where(t, "equal(:body,?0)"), Limit: -1}, row(text("x"))}
	faults := []fault[args]{
		{"params", func(x *args) { x.Params[0] = text("\n") }, api.ErrForm},
		{"params", func(x *args) { x.Params = append(x.Params, api.Value{Kind: 9}) }, api.ErrForm},
		{"entity", func(x *args) { x.F.Entity = "dragon" }, api.ErrName},
		{"where", func(x *args) { x.F.Where = append(x.F.Where, x.F.Where...) }, api.ErrForm},
		{"where", func(x *args) { x.F.Where[0].Args[1].N = 1 }, api.ErrArg},
		{"where", func(x *args) { x.F.Where = where(t, "equal(:version,?0)") }, api.ErrType},
		{"order", func(x *args) { x.F.Order = make([]api.By, api.MaxOrders+1) }, api.ErrLarge},
		{"numbers", func(x *args) { x.F.Tenant = -1 }, api.ErrArg},
		{"numbers", func(x *args) { x.F.Limit = -2 }, api.ErrArg},
		{"include", func(x *args) { x.F.Include = []string{"x"} }, api.ErrName},
		{"numbers", func(x *args) { x.F.Tenant = 1 }, api.ErrTenant},
		{"gone", func(x *args) { x.F.Gone = true }, api.ErrForm},
	}
	for _, strict := range []bool{false, true} {
		r, c := reader(t, m, db, 2)
		_, err := r.Find(base.F, base.Params, true)
		must(t, err)
		gone := base.F
		gone.Gone, gone.Tenant = true, 2
		label, err := cache.Label(m, gone, base.Params)
		must(t, err)
		c.KeepList(label, shelf().Objects, nil, 9)
		tryFaults(t, base, func(x args) api.Errno {
			before := []int{c.Len(), r.Queries()}
			l, err := r.Find(x.F, x.Params, strict)
			if err != api.OK && (len(l) > 0 || !same(before, []int{c.Len(), r.Queries()})) {
				t.Error(l)
			}
			return err
		}, faults)
	}
	r, _ := reader(t, m, db, 0)
	f := all("note")
	f.Tenant = 2
	l, err := r.Find(f, nil, false)
	must(t, err)
	expect(t, len(l), 2)
	want(t, second(r.Find(api.Find{Entity: "note", Limit: -1, Gone: true}, nil, false)), api.ErrForm)
}

// P8.9: the outcomes and notices of acts.
func TestWork(t *testing.T) {
	m, w, db := stored(t)
	r, c := reader(t, m, db, 1)
	_, err := r.Find(all("note"), nil, false)
	must(t, err)
	_, err = r.Get("book", 1, false)
	must(t, err)
	commit := api.Act{Kind: api.ActCommit}
	acts := []api.Act{
		commit, // nothing
		{Kind: api.ActMake, Entity: "note"}, {Kind: api.ActSave, A: 1}, {Kind: api.ActGet, Entity: "note", N: 1}, {Kind: api.ActLink, A: 1, Name: "likes", B: 2}, {Kind: api.ActUnlink, A: 2, Name: "likes", B: 2}, commit,
		{Kind: api.ActGet, Entity: "note", N: 2}, commit, // a commit that changes nothing
		{Kind: api.ActSet, A: 3, Name: "body", Value: text("1")}, {Kind: api.ActFlush}, {Kind: api.ActSet, A: 3, Name: "body", Value: text("2")}, {Kind: api.ActRemove, A: 2}, commit,
		{Kind: api.ActSet, A: 3, Name: "body", Value: text("3")}, {Kind: api.ActRollback}, commit,
		{Kind: api.ActCommit, A: 1}, {Kind: 99},
		{Kind: api.ActMake, Entity: "note"}, {Kind: api.ActMake, Entity: "note"}, {Kind: api.ActSave, A: 4}, {Kind: api.ActPoint, A: 4, Name: "reply", B: 5}, commit, // ErrRef
		{Kind: api.ActPoint, A: 4, Name: "reply", B: 0}, {Kind: api.ActFlush},
	}
	before := clone(acts)
	outcomes, notes := r.Work(acts)
	expect(t, acts, before)
	expected, after, err := session.Direct(m, w, 1, 100, nil, acts)
	must(t, err)
	expect(t, outcomes, expected)
	expect(t, worldOf(t, m, db), after)
	note := func(id int) api.Ref { return api.Ref{Entity: "note", Tenant: 1, ID: id} }
	expect(t, notes, []api.Note{
		{Number: 2, Refs: []api.Ref{note(3)}, Tags: []api.Tag{{Entity: "note", Tenant: 1}, {Entity: "note", Relation: "likes", Tenant: 1}}},
		{Number: 4, Refs: []api.Ref{note(1), note(2)}, Tags: []api.Tag{{Entity: "note", Tenant: 1}, {Entity: "note", Relation: "about", Tenant: 1}, {Entity: "note", Relation: "likes", Tenant: 1}}},
	})
	expect(t, db.Commits(), 4)
	// The cache has been told, and what was not committed is rolled back.
	expect(t, []int{c.Heard(), c.Floor()}, []int{1, 4})
	has(t, c, w.Objects[0])
	l, err := r.Find(all("note"), nil, true)
	must(t, err)
	expect(t, len(l), 2)
	expect(t, r.Queries(), 3)
	// Results share no memory with one another, and are not kept.
	wipe(&notes)
	wipe(&outcomes)
	outcomes, notes = r.Work(nil)
	expect(t, outcomes, []api.Outcome{})
	expect(t, notes, []api.Note{})
}

// P8.9: the moment of a removal, and the tenant, are those of the reader.
func TestMomentOfWork(t *testing.T) {
	m, w, db := stored(t)
	for _, tenant := range []int{2, 0} {
		r, err := cache.NewReader(m, db, newCache(t, 9, 0), tenant, 77)
		must(t, err)
		outcomes, notes := r.Work([]api.Act{{Kind: api.ActGet, Entity: "book", N: 3}, {Kind: api.ActRemove, A: 1}, {Kind: api.ActCommit}})
		if tenant != 0 {
			expect(t, outcomes, []api.Outcome{{Handles: []int{1}}, {Error: api.ErrTenant}, {}})
			expect(t, notes, []api.Note{})
			continue
		}
		expect(t, outcomes, []api.Outcome{{Handles: []int{1}}, {}, {}})
		// The first reader has made a commit, too.
		expect(t, notes, []api.Note{{Number: 3, Refs: []api.Ref{{Entity: "novel", ID: 3}}, Tags: []api.Tag{{Entity: "book"}}}})
	}
	now := worldOf(t, m, db)
	w.Objects[2].Gone, w.Objects[2].Version = moment(77), 2
	expect(t, now, w)
}

// Where the schema of the store has become another one, nothing can be read or done.
func TestAlteredStore(t *testing.T) {
	m, _, db := stored(t)
	r, c := reader(t, m, db, 1)
	o, err := r.Get("note", 1, false)
	must(t, err)
	x := db.Begin()
	must(t, x.Alter(api.Change{Kind: api.ChRename, Table: "note_likes", Name: "note_loves"}), x.Commit())
	want(t, second(r.Get("note", 2, false)), api.ErrForm)
	want(t, second(r.Find(all("note"), nil, false)), api.ErrForm)
	again, err := r.Get("note", 1, false)
	must(t, err)
	expect(t, again, o)
	outcomes, notes := r.Work([]api.Act{{Kind: api.ActGet, Entity: "note", N: 1}, {Kind: api.ActCommit}})
	expect(t, outcomes, []api.Outcome{{Error: api.ErrForm}, {Error: api.ErrForm}})
	expect(t, notes, []api.Note{})
	expect(t, []int{c.Len(), r.Queries(), c.Floor()}, []int{1, 1, 1})
}

// P8.11: labels, and the errors of Label in their order.
func TestLabel(t *testing.T) {
	m := library(t)
	f := api.Find{Entity: "note", Where: where(t, "equal(:body,?1)"), Order: []api.By{{Path: "book.name", Desc: true}}, Limit: 3, Tenant: 4, Include: []string{"about"}}
	plain, err := query.Text(f)
	must(t, err)
	for _, x := range []struct {
		params []api.Value
		more   string
	}{
		{nil, ""},
		{row(null), "null\n"},
		{row(text("it's"), integer(-5), api.Value{Kind: api.Bool, N: 1}, moment(0), text("")), "'it''s'\n-5\ntrue\n@1970-01-01T00:00:00\n''\n"},
	} {
		s, err := cache.Label(m, f, x.params)
		must(t, err)
		expect(t, s, plain+x.more)
	}
	// The model does not matter, nor whether the find is right.
	s, err := cache.Label(api.Model{}, api.Find{Entity: "dragon", Limit: -9, Gone: true}, nil)
	must(t, err)
	expect(t, s, "find dragon\nlimit -9\ngone\n")
	type args struct {
		F      api.Find
		Params []api.Value
	}
	tryFaults(t, args{f, row(integer(1), text("a"))}, func(x args) api.Errno {
		s, err := cache.Label(m, x.F, x.Params)
		if err != api.OK && s != "" {
			t.Error(s)
		}
		return err
	}, []fault[args]{
		{"where", func(x *args) { x.F.Where = append(x.F.Where, x.F.Where...) }, api.ErrForm},
		{"where", func(x *args) { x.F.Where[0].Args[1].N = api.MaxParams }, api.ErrArg},
		{"entity", func(x *args) { x.F.Entity = "" }, api.ErrName},
		{"include", func(x *args) { x.F.Include = slices.Repeat([]string{long(1000)}, 70) }, api.ErrLarge},
		{"params", func(x *args) { x.Params[0] = api.Value{Kind: api.Int, N: api.MaxInt + 1} }, api.ErrForm},
		{"params", func(x *args) { x.Params[0] = api.Value{Kind: api.Int, N: 1, S: "x"} }, api.ErrForm},
		{"params", func(x *args) { x.Params[1] = api.Value{N: 1} }, api.ErrForm},
		{"params", func(x *args) { x.Params[1] = api.Value{Kind: 5} }, api.ErrForm},
		{"params", func(x *args) { x.Params[1] = text("\x7f") }, api.ErrForm},
	})
}
