package shards

import (
	"cmp"
	"slices"

	"dumbwaiter/api"
	"dumbwaiter/same"
)

// name is what an object of a tenant is found by: the place of the root of its family in the model, and its id.
type name struct{ family, id int }

// compareNames compares objects of a tenant by their order in a world.
func compareNames(a, b name) int {
	return cmp.Or(cmp.Compare(a.family, b.family), cmp.Compare(a.id, b.id))
}

// copied is the objects of the copy of a tenant that is moved. When it is added to the tables of the new shard, it is first made equal to the part of the tenant: so it is the rows of the part that are written then, and what stands here says how far the move has come.
type copied map[name]api.Object

// Move begins to move a tenant.
func (c *Cluster) Move(tenant, to int) api.Errno {
	p, there := c.places[tenant]
	switch {
	case !there:
		return api.ErrNone
	case p.State != api.TenantHome:
		return api.ErrState
	case !c.isShard(to), to == p.Shard:
		return api.ErrArg
	}
	p.To, p.State = to, api.TenantCopy
	c.places[tenant] = p
	return api.OK
}

// Abort ends a move that has not been switched.
func (c *Cluster) Abort(tenant int) api.Errno {
	p, there := c.places[tenant]
	switch {
	case !there:
		return api.ErrNone
	case p.State < api.TenantCopy || p.State > api.TenantClosed:
		return api.ErrState
	}
	c.settle(p)
	return api.OK
}

// settle ends a move.
func (c *Cluster) settle(p api.Place) {
	p.To, p.State = -1, api.TenantHome
	c.places[p.Tenant] = p
	delete(c.copies, p.Tenant)
}

// Step makes one step of a move.
func (c *Cluster) Step(tenant int) (bool, api.Errno) {
	p, there := c.places[tenant]
	if !there {
		return false, api.ErrNone
	}
	switch p.State {
	case api.TenantCopy:
		if c.copyMore(p) {
			p.State = api.TenantFollow
		}
	case api.TenantFollow:
		if !c.follow(p) {
			p.State = api.TenantClosed
		}
	case api.TenantClosed:
		if err := c.put(p.To, tenant, c.rowsOf(c.stores[p.Shard].Data(), tenant)); err != api.OK {
			return false, err
		}
		p.Shard, p.To, p.State = p.To, p.Shard, api.TenantClean
	case api.TenantClean:
		// Nothing refers to rows of a tenant but others of it.
		c.put(p.To, tenant, c.noRows())
		c.settle(p)
		return true, api.OK
	default:
		return false, api.ErrState
	}
	c.places[tenant] = p
	return false, api.OK
}

// part returns the objects of a tenant on its shard.
func (c *Cluster) part(p api.Place) []api.Object {
	return c.layout.World(c.rowsOf(c.stores[p.Shard].Data(), p.Tenant)).Objects
}

// named returns a function that returns the names of objects.
func (c *Cluster) named() func(o api.Object) name {
	families := map[string]int{}
	for i, e := range c.model.Entities {
		families[e.Name] = i
		if e.Parent != "" {
			families[e.Name] = families[e.Parent]
		}
	}
	return func(o api.Object) name { return name{families[o.Entity], o.ID} }
}

// copyMore puts the next objects into the copy, and reports whether none is left.
func (c *Cluster) copyMore(p api.Place) bool {
	if c.copies[p.Tenant] == nil {
		c.copies[p.Tenant] = copied{}
	}
	kept, nameOf, put := c.copies[p.Tenant], c.named(), 0
	for _, o := range c.part(p) {
		if _, there := kept[nameOf(o)]; there {
			continue
		}
		if put == api.MaxPart {
			return false
		}
		kept[nameOf(o)] = o
		put++
	}
	return true
}

// follow brings the first objects of the copy up to what has changed, and reports whether there were some.
func (c *Cluster) follow(p api.Place) bool {
	kept, nameOf := c.copies[p.Tenant], c.named()
	now := copied{}
	var changed []name
	for _, o := range c.part(p) {
		n := nameOf(o)
		now[n] = o
		if old, there := kept[n]; !there || !same.Object(old, o) {
			changed = append(changed, n)
		}
	}
	for n := range kept {
		if _, there := now[n]; !there {
			changed = append(changed, n)
		}
	}
	slices.SortFunc(changed, compareNames)
	for _, n := range changed[:min(len(changed), api.MaxPart)] {
		if o, there := now[n]; there {
			kept[n] = o
		} else {
			delete(kept, n)
		}
	}
	return len(changed) > 0
}
