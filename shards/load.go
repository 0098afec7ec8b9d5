package shards

import (
	"cmp"
	"slices"

	"dumbwaiter/api"
	"dumbwaiter/clone"
	"dumbwaiter/layout"
	"dumbwaiter/schema"
	"dumbwaiter/value"
)

// kind is what objects of an entity are made of.
type kind struct {
	place   int // of the root of its family in the model
	root    api.Entity
	values  []api.Slot
	ones    []api.Slot
	initial []api.Value
}

// kindsOf returns the entities of a right model, by their names.
func kindsOf(m api.Model) map[string]*kind {
	kinds := map[string]*kind{}
	for place, e := range m.Entities {
		k := &kind{place: place, root: e}
		if above := kinds[e.Parent]; above != nil {
			k.place, k.root = above.place, above.root
		}
		slots, _ := schema.Slots(m, e.Name)
		for _, s := range slots {
			if s.Kind == 0 {
				k.ones = append(k.ones, s)
			} else {
				k.values = append(k.values, s)
				k.initial = append(k.initial, layout.Field(m, s).Default)
			}
		}
		kinds[e.Name] = k
	}
	return kinds
}

// slotOf returns the place of a slot, -1 if there is none.
func slotOf(l []api.Slot, name string) int {
	return slices.IndexFunc(l, func(s api.Slot) bool { return s.Name == name })
}

// made returns an object with a tenant, as it is before anything is set.
func (k *kind) made(entity string, tenant int) api.Object {
	o := api.Object{Entity: entity, Tenant: tenant, Values: slices.Clone(k.initial), Ones: make([]int, len(k.ones))}
	if k.root.Version {
		o.Version = 1
	}
	return o
}

// ids is the greatest ids of families and their tenants, by the roots.
type ids map[string]map[int]int

// see makes an id one that there is.
func (x ids) see(root string, tenant, id int) {
	if x[root] == nil {
		x[root] = map[int]int{}
	}
	x[root][tenant] = max(x[root][tenant], id)
}

// next returns an id that was not there.
func (x ids) next(root string, tenant int) int {
	id := x[root][tenant] + 1
	x.see(root, tenant, id)
	return id
}

// sortObjects puts objects in the order of a world.
func sortObjects(l []api.Object, kinds map[string]*kind) {
	slices.SortStableFunc(l, func(a, b api.Object) int {
		return cmp.Or(cmp.Compare(kinds[a.Entity].place, kinds[b.Entity].place), cmp.Compare(a.Tenant, b.Tenant), cmp.Compare(a.ID, b.ID))
	})
}

// Load adds fixtures to a world.
func Load(m api.Model, w api.World, l []api.Fixture) (api.World, []api.Ref, api.Errno) {
	if err := schema.CheckWorld(m, w); err != api.OK {
		return api.World{}, nil, err
	}
	x := &loading{m, kindsOf(m), map[string]int{}, nil}
	for _, f := range l {
		if err := x.add(f); err != api.OK {
			return api.World{}, nil, err
		}
	}
	refs := x.number(w)
	if err := x.point(l); err != api.OK {
		return api.World{}, nil, err
	}
	next := clone.World(w)
	next.Objects = append(next.Objects, x.objects...)
	sortObjects(next.Objects, x.kinds)
	if err := schema.CheckWorld(m, next); err != api.OK {
		return api.World{}, nil, err
	}
	return next, refs, api.OK
}

// loading is fixtures on their way into a world.
type loading struct {
	model   api.Model
	kinds   map[string]*kind
	labels  map[string]int // the places of their objects
	objects []api.Object
}

// add adds the object of a fixture, without its id and its references.
func (x *loading) add(f api.Fixture) api.Errno {
	_, twice := x.labels[f.Label]
	k := x.kinds[f.Entity]
	switch {
	case twice:
		return api.ErrTwice
	case k == nil:
		return api.ErrName
	case k.root.Tenant != (f.Tenant != 0):
		return api.ErrTenant
	}
	o := k.made(f.Entity, f.Tenant)
	seen := map[string]bool{}
	for _, v := range f.Values {
		i := slotOf(k.values, v.Slot)
		switch {
		case i < 0:
			return api.ErrName
		case seen[v.Slot]:
			return api.ErrTwice
		}
		if err := value.Check(k.values[i].Kind, v.Value); err != api.OK {
			return err
		}
		o.Values[i], seen[v.Slot] = v.Value, true
	}
	for _, one := range f.Ones {
		switch {
		case slotOf(k.ones, one.Relation) < 0:
			return api.ErrName
		case seen[one.Relation]:
			return api.ErrTwice
		}
		seen[one.Relation] = true
	}
	x.labels[f.Label] = len(x.objects)
	x.objects = append(x.objects, o)
	return api.OK
}

// number gives the objects ids behind those of a world, and returns what they are named by.
func (x *loading) number(w api.World) []api.Ref {
	used := ids{}
	for _, o := range w.Objects {
		used.see(x.kinds[o.Entity].root.Name, o.Tenant, o.ID)
	}
	var refs []api.Ref
	for i := range x.objects {
		o := &x.objects[i]
		o.ID = used.next(x.kinds[o.Entity].root.Name, o.Tenant)
		refs = append(refs, api.Ref{Entity: o.Entity, Tenant: o.Tenant, ID: o.ID})
	}
	return refs
}

// point gives the objects the references of their fixtures.
func (x *loading) point(l []api.Fixture) api.Errno {
	families := map[string][]string{}
	for name := range x.kinds {
		families[name], _ = schema.Family(x.model, name)
	}
	for i, f := range l {
		for _, one := range f.Ones {
			place, there := x.labels[one.Label]
			if !there {
				return api.ErrNone
			}
			k, to := x.kinds[f.Entity], x.objects[place]
			at := slotOf(k.ones, one.Relation)
			if !slices.Contains(families[k.ones[at].To], to.Entity) {
				return api.ErrType
			}
			x.objects[i].Ones[at] = to.ID
		}
	}
	return api.OK
}
