package session_test

import (
	"slices"
	"testing"

	"dumbwaiter/api"
	"dumbwaiter/query"
	"dumbwaiter/schema"
	"dumbwaiter/session"
	"dumbwaiter/store"
)

// party is one of several sessions on a store.
type party struct {
	*session.Session
	tenant   int
	handles  int
	entities []string // of the handles
}

func (p *party) count() int            { return p.handles }
func (p *party) stateOf(h int) int     { return p.State(h) }
func (p *party) entityOf(h int) string { return p.entities[h-1] }
func (p *party) tenantOf() int         { return p.tenant }

// play plays an act.
func (p *party) play(a api.Act) api.Outcome {
	out := session.Play(p.Session, []api.Act{a})[0]
	for ; p.State(p.handles+1) != 0; p.handles++ {
		o, _ := p.Object(p.handles + 1)
		p.entities = append(p.entities, o.Entity)
	}
	return out
}

// tryFinds checks, when a session has just committed, that finds give it the objects as they are in the tables.
func (p *party) tryFinds(t *testing.T, m api.Model, w api.World) {
	t.Helper()
	for _, e := range m.Entities {
		out := p.play(api.Act{Kind: api.ActFind, Find: []api.Find{all(e.Name)}})
		refs, err := query.Objects(m, w, api.Find{Entity: e.Name, Limit: -1, Tenant: p.tenant}, nil)
		must(t, out.Error, err)
		expect(t, len(out.Handles), len(refs))
		for i, h := range out.Handles {
			o, err := p.Object(h)
			must(t, err)
			k := slices.IndexFunc(w.Objects, func(x api.Object) bool { return refs[i] == api.Ref{Entity: x.Entity, Tenant: x.Tenant, ID: x.ID} })
			expect(t, o, w.Objects[k])
		}
	}
}

// turn is an act of one of several sessions.
type turn struct {
	who int
	act api.Act
}

// parties begins sessions on a store, of the given tenants.
func parties(t *testing.T, m api.Model, db *store.Store, tenants []int, way int, hooks []api.Hook) []*party {
	t.Helper()
	var l []*party
	for _, tenant := range tenants {
		s, err := session.New(m, db, tenant, 100, way, hooks)
		must(t, err)
		l = append(l, &party{Session: s, tenant: tenant})
	}
	return l
}

// P7.12, P7.9, P7.10: several sessions over one store have the same outcomes with each way to load, and behind each commit the tables tell a world.
func TestWaysTogether(t *testing.T) {
	randomly(t, 40, func(t *testing.T, r *maker) {
		w := r.world()
		hooks := r.hooks()
		tenants := []int{r.session(), r.session(), 0}
		var turns []turn
		var want []api.Outcome
		var after api.World
		for way := api.LoadLazy; way <= api.LoadEager; way++ {
			db := storeOf(t, r.m, w)
			l := parties(t, r.m, db, tenants, way, hooks)
			var last turn
			var err api.Errno
			for i := range 150 {
				if way == api.LoadLazy {
					who := r.Intn(len(l))
					turns = append(turns, turn{who, r.next(l[who], last.act, err)})
				}
				x := turns[i]
				out := l[x.who].play(x.act)
				last, err = x, out.Error
				if x.act.Kind == api.ActCommit && out.Error == api.OK {
					now := worldOf(t, r.m, db)
					if i%5 == 0 {
						l[x.who].tryFinds(t, r.m, now)
					}
				}
				out.Handles = append(out.Handles, db.Commits())
				for h := range l[x.who].handles {
					o, err := l[x.who].Object(h + 1)
					out.Handles = append(out.Handles, l[x.who].State(h+1), int(err), o.ID, o.Version)
					out.Handles = append(out.Handles, o.Ones...)
					for _, v := range o.Values {
						out.Handles = append(out.Handles, v.Kind, v.N, len(v.S))
					}
				}
				if way == api.LoadLazy {
					want = append(want, out)
				}
				if !same(out, want[i]) {
					t.Fatal(way, i, x, out, want[i])
				}
			}
			if way == api.LoadLazy {
				after = worldOf(t, r.m, db)
			}
			expect(t, worldOf(t, r.m, db), after)
		}
	})
}

// unit is a unit of work: acts of a session of its own, with their outcomes.
type unit struct {
	*party
	acts     []api.Act
	outcomes []api.Outcome
	read     []int // the handles of objects whose values it has read
}

func (u *unit) do(a api.Act) api.Outcome {
	out := u.play(a)
	u.acts, u.outcomes = append(u.acts, a), append(u.outcomes, out)
	return out
}

// step does something, as far as P7.11 speaks of it.
func (u *unit) step(r *maker, w api.World) {
	got := func(out api.Outcome) { u.read = append(u.read, out.Handles...) }
	l := slices.DeleteFunc(slices.Clone(w.Objects), func(o api.Object) bool { return o.Tenant != 0 && o.Tenant != u.tenant })
	if len(l) > 0 && (u.count() == 0 || r.chance(4)) {
		o := pick(r, l...)
		got(u.do(api.Act{Kind: api.ActGet, Entity: o.Entity, N: o.ID}))
		return
	}
	h := r.handle(u, "")
	entity := r.entityOf(u, h)
	switch r.Intn(9) {
	case 0:
		u.do(r.made(u))
		u.do(api.Act{Kind: api.ActSave, A: u.count()})
	case 1, 2:
		u.do(api.Act{Kind: api.ActValue, A: h, Name: pick(r, r.slots(entity, false)...).Name})
		u.read = append(u.read, h)
	case 3:
		got(u.do(api.Act{Kind: api.ActOne, A: h, Name: r.one(entity).Name}))
		u.read = append(u.read, h)
	case 4, 5:
		s := pick(r, r.slots(entity, false)...)
		u.do(api.Act{Kind: api.ActSet, A: h, Name: s.Name, Value: r.valueFor(s)})
	case 6:
		one := r.one(entity)
		u.do(api.Act{Kind: api.ActPoint, A: h, Name: one.Name, B: r.handle(u, one.To)})
	case 7:
		x := r.list(entity)
		u.do(api.Act{Kind: pick(r, api.ActLink, api.ActUnlink), A: h, Name: x.Name, B: r.handle(u, x.To)})
	case 8:
		if root, _ := schema.Root(r.m, entity); slices.ContainsFunc(r.m.Entities, func(e api.Entity) bool { return e.Name == root && e.Soft }) && r.chance(3) {
			u.do(api.Act{Kind: api.ActRemove, A: h})
			return
		}
		u.do(api.Act{Kind: api.ActFlush})
	}
}

// finish holds what was read, and commits.
func (u *unit) finish() bool {
	for _, h := range u.read {
		u.do(api.Act{Kind: api.ActHold, A: h})
	}
	return u.do(api.Act{Kind: api.ActCommit}).Error == api.OK
}

// P7.11: units of work that hold what they have read are serial.
func TestSerial(t *testing.T) {
	done, refused := 0, 0
	randomly(t, 60, func(t *testing.T, r *maker) {
		for i := range r.m.Entities {
			r.m.Entities[i].Version = r.m.Entities[i].Parent == ""
		}
		w := r.world()
		db, hooks, tenant := storeOf(t, r.m, w), r.hooks(), r.session()
		begin := func(db *store.Store) *unit {
			return &unit{party: parties(t, r.m, db, []int{tenant}, 1+r.Intn(3), hooks)[0]}
		}
		open := []*unit{begin(db), begin(db), begin(db)}
		var committed []*unit
		for range 150 {
			i := r.Intn(len(open))
			if !r.chance(8) {
				open[i].step(r, w)
				continue
			}
			if open[i].finish() {
				committed = append(committed, open[i])
				done++
			} else {
				refused++
			}
			open[i] = begin(db)
		}
		alone := storeOf(t, r.m, w)
		for i, u := range committed {
			s := begin(alone)
			for k, a := range u.acts {
				if out := s.do(a); !same(out, u.outcomes[k]) {
					t.Fatal("unit", i, "act", k, a, out, u.outcomes[k])
				}
			}
		}
		expect(t, worldOf(t, r.m, alone), worldOf(t, r.m, db))
	})
	t.Log(done, "commits", refused, "refused")
}
