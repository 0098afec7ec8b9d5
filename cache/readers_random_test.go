package cache_test

import (
	"slices"
	"testing"

	"dumbwaiter/api"
	"dumbwaiter/cache"
	"dumbwaiter/query"
	"dumbwaiter/schema"
	"dumbwaiter/session"
	"dumbwaiter/store"
)

// ledger is a store with the world and the notice of each number of commits.
type ledger struct {
	*maker
	db     *store.Store
	worlds []api.World
	notes  []api.Note
}

// ledgerOf is a ledger of a store with a world. The store has had one commit.
func ledgerOf(t *testing.T, r *maker, w api.World) *ledger {
	t.Helper()
	return &ledger{r, storeOf(t, r.m, w), []api.World{{}, w}, []api.Note{{}, {Number: 1}}}
}

// now is the world behind the last commit.
func (l *ledger) now() api.World { return l.worlds[len(l.worlds)-1] }

// enter enters a commit. All commits ahead of it that were not entered have changed nothing.
func (l *ledger) enter(number int, n api.Note, w api.World) {
	for len(l.worlds) < number {
		l.worlds = append(l.worlds, l.now())
		l.notes = append(l.notes, api.Note{Number: len(l.notes)})
	}
	if len(l.worlds) == number {
		l.worlds, l.notes = append(l.worlds, w), append(l.notes, n)
	}
}

// process has a cache, and readers of several tenants.
type process struct {
	*ledger
	*cache.Cache
	readers []*cache.Reader
	tenants []int
	own     []api.Note
}

// newProcess is a process with two readers.
func newProcess(t *testing.T, l *ledger) *process {
	t.Helper()
	p := &process{ledger: l, Cache: newCache(t, 1+l.Intn(30), len(l.worlds)-1)}
	for range 2 {
		tenant := l.Intn(tenants + 1)
		x, err := cache.NewReader(l.m, l.db, p.Cache, tenant, 100)
		must(t, err)
		p.readers, p.tenants = append(p.readers, x), append(p.tenants, tenant)
	}
	return p
}

// work lets a reader do something, and checks what it tells of it.
func (p *process) work(t *testing.T, reader int) {
	t.Helper()
	before, tenant := p.now(), p.tenants[reader]
	acts := p.acts(before, tenant, 1+p.Intn(6))
	outcomes, notes := p.readers[reader].Work(acts)
	wanted, after, err := session.Direct(p.m, before, tenant, 100, nil, acts)
	must(t, err)
	expect(t, outcomes, wanted)
	expect(t, worldOf(t, p.m, p.db), after)
	left := notes
	for i, a := range acts {
		if a.Kind != api.ActCommit || outcomes[i].Error != api.OK {
			continue
		}
		_, w, err := session.Direct(p.m, before, tenant, 100, nil, acts[:i+1])
		must(t, err)
		if same(w, p.now()) {
			continue
		}
		if len(left) == 0 {
			t.Fatal("no notice of", i, acts)
		}
		expect(t, left[0], p.plainNote(p.now(), w, left[0].Number))
		p.enter(left[0].Number, left[0], w)
		left = left[1:]
	}
	expect(t, left, []api.Note{})
	p.enter(p.db.Commits(), api.Note{Number: p.db.Commits()}, p.now())
	p.own = append(p.own, notes...)
	if len(notes) > 0 && p.Floor() < notes[len(notes)-1].Number {
		t.Fatal("the cache has not been told", notes)
	}
}

// change is a change by a process that is not looked at.
func (l *ledger) change(t *testing.T) {
	t.Helper()
	acts := slices.DeleteFunc(l.acts(l.now(), 0, 1+l.Intn(6)), func(a api.Act) bool { return a.Kind == api.ActCommit })
	s, err := session.New(l.m, l.db, 0, 100, api.LoadLazy, nil)
	must(t, err)
	session.Play(s, append(acts, api.Act{Kind: api.ActCommit}))
	w := worldOf(t, l.m, l.db)
	n, err := cache.Noted(l.m, l.now(), w, l.db.Commits())
	must(t, err)
	l.enter(l.db.Commits(), n, w)
}

// question is what is asked of readers: what it tells of a world, and whether a notice touches it.
type question struct {
	told    func(w api.World) ([]api.Object, api.Errno)
	touches func(n api.Note) bool
	ask     func(x *cache.Reader, strict bool) ([]api.Object, api.Errno)
}

// objectsOf are objects of a world.
func objectsOf(w api.World, refs []api.Ref) []api.Object {
	var l []api.Object
	for _, ref := range refs {
		i := slices.IndexFunc(w.Objects, func(o api.Object) bool { return refOf(o) == ref })
		l = append(l, w.Objects[i])
	}
	return l
}

// get is a Get of a tenant.
func (l *ledger) get(tenant int) question {
	entity, id := l.entity(), 1+l.Intn(6)
	isNote := l.isOf(entity, "note")
	isAsked := func(o api.Ref) bool {
		return o.ID == id && l.isOf(o.Entity, entity) && (!isNote || o.Tenant == tenant)
	}
	return question{
		func(w api.World) ([]api.Object, api.Errno) {
			if isNote && tenant == 0 {
				return nil, api.ErrTenant
			}
			f := all(entity)
			f.Tenant = tenant
			refs, err := query.Objects(l.m, w, f, nil)
			refs = slices.DeleteFunc(refs, func(o api.Ref) bool { return !isAsked(o) })
			if err == api.OK && len(refs) == 0 {
				err = api.ErrNone
			}
			return objectsOf(w, refs), err
		},
		func(n api.Note) bool { return slices.ContainsFunc(n.Refs, isAsked) },
		func(x *cache.Reader, strict bool) ([]api.Object, api.Errno) {
			o, err := x.Get(entity, id, strict)
			if err != api.OK {
				return nil, err
			}
			return []api.Object{o}, err
		},
	}
}

// search is a Find of a tenant.
func (l *ledger) search(t *testing.T, f api.Find, params []api.Value, tenant int) question {
	f.Gone = false
	if tenant != 0 {
		f.Tenant = pick(l.maker, 0, tenant)
	}
	seen := f
	seen.Tenant = max(f.Tenant, tenant)
	tags, err := cache.Tags(l.m, seen)
	must(t, err)
	return question{
		func(w api.World) ([]api.Object, api.Errno) {
			refs, err := query.Objects(l.m, w, seen, params)
			return objectsOf(w, refs), err
		},
		func(n api.Note) bool { return cache.Touches(n, tags) },
		func(x *cache.Reader, strict bool) ([]api.Object, api.Errno) { return x.Find(f, params, strict) },
	}
}

// try asks a reader, and checks what it tells. It reports whether the cache has told something that is not so any more.
func (p *process) try(t *testing.T, reader int, q question) bool {
	t.Helper()
	x, strict := p.readers[reader], p.chance(4)
	before := x.Queries()
	got, err := q.ask(x, strict)
	executed := x.Queries() - before
	wanted, isWanted := q.told(p.now())
	isNow := err == isWanted && same(got, wanted)
	switch {
	case isWanted == api.ErrTenant && executed == 0 && isNow:
		return false
	case executed > 1 || strict && executed == 0, executed == 1 && !isNow:
		t.Fatal(strict, executed, got, err, wanted, isWanted)
	}
	// What the cache tells was so at some moment behind the last notice heard; and as its own process has left it.
	for at := p.Heard(); at < len(p.worlds); at++ {
		isOld := slices.ContainsFunc(p.own, func(n api.Note) bool { return n.Number > at && q.touches(n) })
		if wanted, isWanted := q.told(p.worlds[at]); !isOld && err == isWanted && same(got, wanted) {
			return !isNow
		}
	}
	t.Fatal("never told", got, err, p.Heard(), p.own)
	return false
}

// P8.7, P8.8, P8.9, P8.10: readers with caches of their own over one store.
func TestReadersAtRandom(t *testing.T) {
	old, answered := 0, 0
	randomly(t, 12, func(t *testing.T, r *maker) {
		l := ledgerOf(t, r, r.world())
		processes := []*process{newProcess(t, l), newProcess(t, l), newProcess(t, l)}
		type pair struct {
			f      api.Find
			params []api.Value
		}
		var finds []pair
		for range 5 {
			f, params := r.find(t)
			finds = append(finds, pair{f, params})
		}
		for range 150 {
			p := pick(r, processes...)
			reader := r.Intn(2)
			switch n := r.Intn(20); {
			case n < 2:
				p.work(t, reader)
			case n < 3:
				l.change(t)
			case n < 6:
				if p.Heard() < len(l.worlds)-1 {
					must(t, p.Hear(l.notes[p.Heard()+1]))
				}
			default:
				before := p.readers[reader].Queries()
				x := pick(r, finds...)
				q := l.search(t, x.f, x.params, p.tenants[reader])
				if n < 12 {
					q = l.get(p.tenants[reader])
				}
				if p.try(t, reader, q) {
					old++
				}
				if p.readers[reader].Queries() == before {
					answered++
				}
			}
			if t.Failed() {
				return
			}
		}
		for _, p := range processes {
			for p.Heard() < len(l.worlds)-1 {
				must(t, p.Hear(l.notes[p.Heard()+1]))
			}
			for range 10 {
				x := pick(r, finds...)
				if p.try(t, 0, l.get(p.tenants[0])) || p.try(t, 1, l.search(t, x.f, x.params, p.tenants[1])) {
					t.Fatal("a cache that has heard everything does not tell what there is")
				}
			}
		}
	})
	if !testing.Short() && (old < 10 || answered < 100) {
		t.Error("too little was told by caches", old, answered)
	}
}

// P8.8: what a reader tells is stored, also references to what is gone.
func TestStoredReferences(t *testing.T) {
	m := library(t)
	w := shelf()
	w.Objects[1].Gone = moment(9)
	r, _ := reader(t, m, storeOf(t, m, w), 1)
	for _, strict := range []bool{true, false} {
		o, err := r.Get("book", 1, strict)
		must(t, err)
		expect(t, o, w.Objects[0])
		l, err := r.Find(all("book"), nil, strict)
		must(t, err)
		expect(t, l, w.Objects[:1])
		want(t, second(r.Get("book", 2, strict)), api.ErrNone)
	}
	s, err := schema.Living(m, w)
	must(t, err)
	expect(t, s.Objects[0].Ones, []int{0})
}
