package session

import (
	"slices"

	"dumbwaiter/api"
	"dumbwaiter/query"
	"dumbwaiter/schema"
)

// worldTables are the objects of a world.
type worldTables struct {
	*catalog
	kept   api.World // behind the last commit
	now    api.World
	places map[name]int // of the objects of now
}

// newWorldTables returns the tables of a right world, which they keep.
func newWorldTables(c *catalog, w api.World) *worldTables {
	t := &worldTables{catalog: c, kept: w}
	t.rollback()
	return t
}

// set makes a world what the transaction sees.
func (t *worldTables) set(w api.World) {
	t.now, t.places = w, map[name]int{}
	for i, x := range w.Objects {
		t.places[t.nameOf(x)] = i
	}
}

func (t *worldTables) begin() api.Errno { return api.OK }

func (t *worldTables) find(f api.Find) []name {
	refs, _ := query.Objects(t.model, t.now, f, nil)
	return t.names(refs)
}

// names returns the names of objects.
func (t *worldTables) names(refs []api.Ref) []name {
	var l []name
	for _, r := range refs {
		l = append(l, t.nameIn(r.Entity, r.Tenant, r.ID))
	}
	return l
}

func (t *worldTables) objects(names []name) []api.Object {
	var l []api.Object
	for _, n := range names {
		if x, there := t.ask(n); there {
			l = append(l, x)
		}
	}
	return l
}

func (t *worldTables) related(x list, owners []name) map[name][]name {
	l := map[name][]name{}
	for _, n := range owners {
		if o, there := t.ask(n); there {
			refs, _ := query.Related(t.model, t.now, api.Ref{Entity: o.Entity, Tenant: o.Tenant, ID: o.ID}, x.Relation.Name)
			l[n] = t.names(refs)
		}
	}
	return l
}

func (t *worldTables) ask(n name) (api.Object, bool) {
	i, there := t.places[n]
	if !there {
		return api.Object{}, false
	}
	return t.now.Objects[i], true
}

func (t *worldTables) askPair(p api.PairOf) bool { return slices.Contains(t.now.Pairs, p) }

func (t *worldTables) world() (api.World, api.Errno) { return t.now, api.OK }

func (t *worldTables) write(w api.World) api.Errno {
	err := schema.CheckWorld(t.model, w)
	if err == api.OK {
		t.set(w)
	}
	return err
}

func (t *worldTables) commit() api.Errno {
	t.kept = t.now
	return api.OK
}

func (t *worldTables) rollback() { t.set(t.kept) }
