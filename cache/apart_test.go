package cache_test

import (
	"slices"
	"testing"

	"dumbwaiter/api"
	"dumbwaiter/cache"
	"dumbwaiter/schema"
	"dumbwaiter/session"
	"dumbwaiter/sql"
	"dumbwaiter/store"
)

// step is a call of a program of a tenant: just one of its fields is set.
type step struct {
	Acts      []api.Act
	Find      []api.Find
	Params    []api.Value
	Entity    string
	ID        int
	Strict    bool
	Statement []api.Statement
	Open      []api.Act // of a session that goes on
}

// party is what carries out programs of a tenant over a store.
type party struct {
	m      api.Model
	db     *store.Store
	tenant int
	reader *cache.Reader
	open   *session.Session
}

func newParty(t *testing.T, m api.Model, w api.World, tenant int) *party {
	t.Helper()
	p := &party{m: m, db: storeOf(t, m, w), tenant: tenant}
	p.reader, _ = reader(t, m, p.db, tenant)
	var err api.Errno
	p.open, err = session.New(m, p.db, tenant, 100, api.LoadBatch, nil)
	must(t, err)
	return p
}

// program makes a program of a tenant that has a part of a world.
func (r *maker) program(t *testing.T, w api.World, tenant int) []step {
	var l []step
	for range 25 {
		switch r.Intn(7) {
		case 0, 1:
			l = append(l, step{Acts: r.acts(w, tenant, 1+r.Intn(6))})
		case 2:
			f, params := r.find(t)
			f.Tenant = pick(r, 0, tenant, f.Tenant)
			l = append(l, step{Find: []api.Find{f}, Params: params, Strict: r.chance(2)})
		case 3:
			l = append(l, step{Entity: r.entity(), ID: 1 + r.Intn(6), Strict: r.chance(2)})
		case 4, 5:
			l = append(l, step{Statement: []api.Statement{r.statement(t)}, Params: row(r.value(api.Int), r.value(api.Text))})
		case 6:
			l = append(l, step{Open: r.acts(w, tenant, 1+r.Intn(6))})
		}
	}
	return l
}

// do carries out a step, and returns all results.
func (p *party) do(t *testing.T, x step) []any {
	t.Helper()
	switch {
	case x.Acts != nil:
		outcomes, notes := p.reader.Work(x.Acts)
		return []any{outcomes, notes}
	case x.Find != nil:
		l, err := p.reader.Find(x.Find[0], x.Params, x.Strict)
		return []any{l, err, p.reader.Queries()}
	case x.Statement != nil:
		return p.run(t, x.Statement[0], x.Params)
	case x.Open != nil:
		outcomes := session.Play(p.open, x.Open)
		for i, out := range outcomes {
			if out.Error == api.ErrConflict {
				t.Fatal("a conflict", i)
			}
		}
		p.open.Rollback()
		return []any{outcomes, p.open.Statements()}
	}
	o, err := p.reader.Get(x.Entity, x.ID, x.Strict)
	return []any{o, err, p.reader.Queries()}
}

// run executes what Scope makes of a statement, and commits it if a world is told then.
func (p *party) run(t *testing.T, st api.Statement, params []api.Value) []any {
	t.Helper()
	scoped, err := cache.Scope(p.m, st, p.tenant)
	if err != api.OK {
		return []any{err}
	}
	x := p.db.Begin()
	result, err := sql.Run(x, scoped, params)
	result.Read = 0
	d, e := x.Data()
	must(t, e)
	_, wrong := schema.World(p.m, d)
	if wrong != api.OK || err != api.OK {
		must(t, x.Rollback())
	} else {
		must(t, x.Commit())
	}
	return []any{scoped, result, err, wrong}
}

// rest is what a tenant does not have of a world: the objects and pairs of others, and those without a tenant.
func rest(w api.World, tenant int) api.World {
	return api.World{
		Objects: slices.DeleteFunc(clone(w.Objects), func(o api.Object) bool { return o.Tenant == tenant }),
		Pairs:   slices.DeleteFunc(clone(w.Pairs), func(p api.PairOf) bool { return p.Tenant == tenant }),
	}
}

// P8.15: what is called for a tenant does not depend on other tenants, and leaves what others have as it is.
func TestTenantsApart(t *testing.T) {
	changed := 0
	randomly(t, 25, func(t *testing.T, r *maker) {
		w := r.world()
		tenant := 1 + r.Intn(tenants)
		part, err := cache.Part(r.m, w, tenant)
		must(t, err)
		other := w
		for range 4 {
			other = r.next(other, 1+(tenant+r.Intn(tenants-1))%tenants, 6)
		}
		otherPart, err := cache.Part(r.m, other, tenant)
		must(t, err)
		expect(t, otherPart, part)
		worlds := []api.World{w, part, other}
		var parties []*party
		for _, w := range worlds {
			parties = append(parties, newParty(t, r.m, w, tenant))
		}
		for _, x := range r.program(t, w, tenant) {
			before := clone(x)
			wanted := parties[0].do(t, x)
			now := worldOf(t, r.m, parties[0].db)
			part, err := cache.Part(r.m, now, tenant)
			must(t, err)
			for i, p := range parties {
				if i > 0 {
					if got := p.do(t, x); !sameAll(got, wanted) {
						t.Fatal(x, got, "want", wanted)
					}
				}
				now := worldOf(t, r.m, p.db)
				own, err := cache.Part(r.m, now, tenant)
				must(t, err)
				expect(t, own, part)
				expect(t, rest(now, tenant), rest(worlds[i], tenant))
			}
			expect(t, x, before)
			if !same(now, w) {
				changed++
			}
		}
	})
	if changed < 50 && !testing.Short() {
		t.Error("too little was changed", changed)
	}
}

// sameAll reports whether results are the same.
func sameAll(a, b []any) bool {
	return slices.EqualFunc(a, b, func(x, y any) bool { return same(x, y) })
}
