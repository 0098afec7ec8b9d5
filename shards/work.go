package shards

import (
	"slices"
	"strings"

	"dumbwaiter/api"
	"dumbwaiter/cache"
	"dumbwaiter/query"
	"dumbwaiter/schema"
	"dumbwaiter/session"
)

// plan is a list of acts, whose handles can depend on the outcomes of those ahead of them.
type plan struct {
	acts    []api.Act
	handles func(i int, done []api.Outcome) (a, b int)
}

// planOf returns the plan of acts as they stand.
func planOf(acts []api.Act) plan {
	return plan{acts, func(i int, _ []api.Outcome) (int, int) { return acts[i].A, acts[i].B }}
}

// play plays a plan on a session.
func (p plan) play(s *session.Session) []api.Outcome {
	var done []api.Outcome
	for i, act := range p.acts {
		act.A, act.B = p.handles(i, done)
		done = append(done, session.Play(s, []api.Act{act})...)
	}
	return done
}

// Work plays acts on a new session of a tenant.
func (c *Cluster) Work(t api.Token, tenant, now int, acts []api.Act) ([]api.Outcome, api.Errno) {
	return c.work(t, tenant, now, planOf(acts))
}

func (c *Cluster) work(t api.Token, tenant, now int, l plan) ([]api.Outcome, api.Errno) {
	if err := cache.CheckToken(c.secret, t, tenant, now); err != api.OK {
		return nil, err
	}
	p, there := c.places[tenant]
	switch {
	case tenant == 0:
		return nil, api.ErrArg
	case !there:
		return nil, api.ErrNone
	case p.State == api.TenantClosed:
		return nil, api.ErrMoving
	}
	return c.played(p.Shard, tenant, now, l, func(api.Act) api.Errno { return api.OK })
}

// played plays acts on a new session, if there is none with an error.
func (c *Cluster) played(shard, tenant, now int, l plan, check func(a api.Act) api.Errno) ([]api.Outcome, api.Errno) {
	s, err := session.New(c.model, c.stores[shard], tenant, now, api.LoadLazy, nil)
	if err != api.OK {
		return nil, err
	}
	if len(l.acts) > api.MaxActs {
		return nil, api.ErrLarge
	}
	for _, act := range l.acts {
		if err := check(act); err != api.OK {
			return nil, err
		}
	}
	defer s.Rollback()
	return l.play(s), api.OK
}

// Shared plays acts on every shard.
func (c *Cluster) Shared(t api.Token, now int, acts []api.Act) ([]api.Outcome, api.Errno) {
	return c.shared(t, now, planOf(acts))
}

// shared plays acts on the first shard, and makes the objects of all others those that it has then. What acts do on the others would be the same, but for ErrLarge: by this, no shard can fall behind.
func (c *Cluster) shared(t api.Token, now int, l plan) ([]api.Outcome, api.Errno) {
	if err := cache.CheckToken(c.secret, t, 0, now); err != api.OK {
		return nil, err
	}
	outcomes, err := c.played(0, 0, now, l, c.common().check)
	if err != api.OK {
		return nil, err
	}
	rows := c.rowsOf(c.stores[0].Data(), 0)
	for shard := 1; shard < len(c.stores); shard++ {
		c.put(shard, 0, rows)
	}
	return outcomes, api.OK
}

// common says what acts that are played on every shard must not name.
type common struct {
	entities  map[string]bool // those with a tenant
	relations map[string]bool // from an entity without a tenant to one with a tenant
}

// common returns what acts for all shards must not name.
func (c *Cluster) common() common {
	x := common{map[string]bool{}, map[string]bool{}}
	for _, e := range c.model.Entities {
		x.entities[e.Name] = e.Tenant || x.entities[e.Parent]
	}
	for _, e := range c.model.Entities {
		for _, r := range e.Relations {
			if !x.entities[e.Name] && x.entities[r.To] {
				x.relations[r.Name] = true
			}
		}
	}
	return x
}

// check says whether an act can be played on every shard.
func (x common) check(a api.Act) api.Errno {
	switch {
	case (a.Kind == api.ActMake || a.Kind == api.ActGet) && x.entities[a.Entity],
		a.Kind == api.ActFind && slices.ContainsFunc(a.Find, func(f api.Find) bool { return x.entities[f.Entity] }),
		slices.ContainsFunc(a.Find, x.isNamed),
		x.relations[a.Name]:
		return api.ErrTenant
	case a.Kind == api.ActRemove:
		return api.ErrRef
	}
	return api.OK
}

// isNamed reports whether a path of a find has a name of one of the relations.
func (x common) isNamed(f api.Find) bool {
	return slices.ContainsFunc(f.Where, x.isIn) || slices.ContainsFunc(f.Include, x.isOn) ||
		slices.ContainsFunc(f.Order, func(b api.By) bool { return x.isOn(b.Path) })
}

// isIn reports whether a path of a condition has a name of one of the relations.
func (x common) isIn(e api.Expr) bool {
	path := e.Name
	if e.Kind == api.XIs {
		path = e.Source // its Name is that of an entity
	}
	return x.isOn(path) || slices.ContainsFunc(e.Args, x.isIn)
}

// isOn reports whether a path has a name of one of the relations.
func (x common) isOn(path string) bool {
	return slices.ContainsFunc(strings.Split(path, "."), func(name string) bool { return x.relations[name] })
}

// Find returns the rows of a find.
func (c *Cluster) Find(t api.Token, now int, f api.Find, params []api.Value) ([][]api.Value, api.Errno) {
	if err := cache.CheckToken(c.secret, t, f.Tenant, now); err != api.OK {
		return nil, err
	}
	return query.Answer(c.model, c.World(), f, params)
}

// Total returns the rows of a total.
func (c *Cluster) Total(t api.Token, now int, q api.Total, params []api.Value) ([][]api.Value, api.Errno) {
	if err := cache.CheckToken(c.secret, t, q.Tenant, now); err != api.OK {
		return nil, err
	}
	return query.Totals(c.model, c.World(), q, params)
}

// object returns the object of an entity, or below it, with a tenant and an id.
func (c *Cluster) object(entity string, tenant, id int) (api.Object, bool) {
	names, _ := schema.Family(c.model, entity)
	l := c.World().Objects
	i := slices.IndexFunc(l, func(o api.Object) bool {
		return o.Tenant == tenant && o.ID == id && slices.Contains(names, o.Entity)
	})
	if i < 0 {
		return api.Object{}, false
	}
	return l[i], true
}
