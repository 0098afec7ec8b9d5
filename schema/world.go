package schema

import (
	"cmp"
	"slices"

	"dumbwaiter/api"
	"dumbwaiter/value"
)

// objectName is what an object is found by: its family is the place of the root.
type objectName struct{ family, tenant, id int }

// scene is a world with its model.
type scene struct {
	view
	world   api.World
	shapeOf []shape            // of each entity
	objects map[objectName]int // their places in the world
}

// sceneOf returns the scene of a world and a right model.
func sceneOf(m api.Model, w api.World) scene {
	v := viewOf(m)
	s := scene{v, w, v.shapes(), map[objectName]int{}}
	for i, o := range w.Objects {
		if place, ok := s.places[o.Entity]; ok {
			s.objects[s.nameOf(place, o.Tenant, o.ID)] = i
		}
	}
	return s
}

// nameOf returns the name of the object of an entity, or below it, with an id, to which something of a tenant refers.
func (s scene) nameOf(place, tenant, id int) objectName {
	if !s.root(place).Tenant {
		tenant = 0
	}
	return objectName{s.top(place), tenant, id}
}

// CheckWorld checks a world.
func CheckWorld(m api.Model, w api.World) api.Errno {
	if err := Check(m); err != api.OK {
		return err
	}
	if len(w.Objects) > api.MaxObjects || len(w.Pairs) > api.MaxPairs {
		return api.ErrLarge
	}
	s := sceneOf(m, w)
	// A table has at most one row for each object, or for each pair, and MaxRows is not less than their limits: item 6 of P2.14 cannot be.
	return first(s.checkObjects, s.checkPairs, s.checkOnes, s.checkEnds, s.checkUniques)
}

// checkObjects returns the errors of item 2 of P2.14.
func (s scene) checkObjects() api.Errno {
	before := objectName{family: -1}
	for _, o := range s.world.Objects {
		place, ok := s.places[o.Entity]
		if !ok {
			return api.ErrName
		}
		if err := checkObject(s.root(place), s.shapeOf[place], o); err != api.OK {
			return err
		}
		name := s.nameOf(place, o.Tenant, o.ID)
		switch compareNames(name, before) {
		case -1:
			return api.ErrOrder
		case 0:
			return api.ErrTwice
		}
		before = name
	}
	return api.OK
}

// compareNames compares objects by their order in a world.
func compareNames(a, b objectName) int {
	return cmp.Or(cmp.Compare(a.family, b.family), cmp.Compare(a.tenant, b.tenant), cmp.Compare(a.id, b.id))
}

// checkObject checks an object by itself.
func checkObject(root api.Entity, s shape, o api.Object) api.Errno {
	switch {
	case o.Tenant != 0 && !root.Tenant, o.Version != 0 && !root.Version, o.Gone != api.Value{} && !root.Soft:
		return api.ErrForm
	case !isNumber(o.ID), root.Tenant && !isNumber(o.Tenant), root.Version && !isNumber(o.Version):
		return api.ErrArg
	}
	if err := value.Check(api.Moment, o.Gone); err != api.OK {
		return err
	}
	if len(o.Values) != len(s.values) || len(o.Ones) != len(s.ones) {
		return api.ErrForm
	}
	for i, v := range o.Values {
		if err := checkValue(s.values[i], v); err != api.OK {
			return err
		}
	}
	for i, id := range o.Ones {
		switch {
		case id != 0 && !isNumber(id):
			return api.ErrArg
		case id == 0 && !s.ones[i].Null:
			return api.ErrNull
		}
	}
	return api.OK
}

// checkValue checks the value of a slot.
func checkValue(s slot, v api.Value) api.Errno {
	err := value.Check(s.Kind, v)
	switch {
	case err != api.OK:
		return err
	case v.Kind == api.Null && !s.Null:
		return api.ErrNull
	case !permits(s.texts, v):
		return api.ErrArg
	}
	return api.OK
}

// isNumber reports whether an int can be an id, a tenant or a version.
func isNumber(n int) bool { return n >= 1 && n <= api.MaxInt }

// checkPairs returns the errors of item 3 of P2.14.
func (s scene) checkPairs() api.Errno {
	for i, p := range s.world.Pairs {
		if err := s.checkPair(p); err != api.OK {
			return err
		}
		if i == 0 {
			continue
		}
		switch comparePairs(p, s.world.Pairs[i-1]) {
		case -1:
			return api.ErrOrder
		case 0:
			return api.ErrTwice
		}
	}
	return api.OK
}

// comparePairs compares pairs by their order in a world.
func comparePairs(a, b api.PairOf) int {
	return cmp.Or(
		cmp.Compare(a.Entity, b.Entity), cmp.Compare(a.Relation, b.Relation),
		cmp.Compare(a.Tenant, b.Tenant), cmp.Compare(a.Left, b.Left), cmp.Compare(a.Right, b.Right),
	)
}

// checkPair checks a pair by itself.
func (s scene) checkPair(p api.PairOf) api.Errno {
	place, r, ok := s.pairRelation(p)
	if !ok || !s.hasPairs(place, r) {
		return api.ErrName
	}
	tenant := s.root(place).Tenant
	symmetric := r.To == p.Entity && r.Back == p.Relation
	switch {
	case p.Tenant != 0 && !tenant:
		return api.ErrForm
	case !isNumber(p.Left), !isNumber(p.Right), tenant && !isNumber(p.Tenant), symmetric && p.Left > p.Right:
		return api.ErrArg
	}
	return api.OK
}

// pairRelation returns the relation of a pair, and the place of its entity.
func (s scene) pairRelation(p api.PairOf) (int, api.Relation, bool) {
	place, ok := s.places[p.Entity]
	if !ok {
		return 0, api.Relation{}, false
	}
	r, _, ok := s.relation(place, p.Relation, api.RelPairs)
	return place, r, ok
}

// has reports whether there is an object of an entity with an id, to which something of a tenant refers.
func (s scene) has(entity string, tenant, id int) bool {
	place := s.places[entity]
	i, ok := s.objects[s.nameOf(place, tenant, id)]
	return ok && s.isOf(s.places[s.world.Objects[i].Entity], place)
}

// checkOnes returns the errors of item 4 of P2.14 for references.
func (s scene) checkOnes() api.Errno {
	for _, o := range s.world.Objects {
		for i, one := range s.shapeOf[s.places[o.Entity]].ones {
			if id := o.Ones[i]; id != 0 && !s.has(one.To, o.Tenant, id) {
				return api.ErrRef
			}
		}
	}
	return api.OK
}

// checkEnds returns the errors of item 4 of P2.14 for pairs.
func (s scene) checkEnds() api.Errno {
	for _, p := range s.world.Pairs {
		_, r, _ := s.pairRelation(p)
		if !s.has(p.Entity, p.Tenant, p.Left) || !s.has(r.To, p.Tenant, p.Right) {
			return api.ErrRef
		}
	}
	return api.OK
}

// checkUniques returns the errors of item 5 of P2.14.
func (s scene) checkUniques() api.Errno {
	for place, entity := range s.model.Entities {
		for _, list := range entity.Uniques {
			if !s.isUnique(place, list) {
				return api.ErrKey
			}
		}
	}
	return api.OK
}

// isUnique reports whether no two objects of an entity have the same tenant and values of a list.
func (s scene) isUnique(place int, list []string) bool {
	getters := []func(o api.Object) api.Value{func(o api.Object) api.Value { return number(o.Tenant) }}
	places := []int{0}
	for i, name := range list {
		getters = append(getters, s.shapeOf[place].getter(name))
		places = append(places, i+1)
	}
	var rows [][]api.Value
	for _, o := range s.world.Objects {
		if !s.isOf(s.places[o.Entity], place) {
			continue
		}
		var row []api.Value
		for _, get := range getters {
			row = append(row, get(o))
		}
		rows = append(rows, row)
	}
	return isUnique(rows, places)
}

// getter returns a function that returns what an object has in a slot, as it stands in a column. It is for the objects of an entity and those below it: their slots begin with those of the entity.
func (s shape) getter(name string) func(o api.Object) api.Value {
	named := func(s slot) bool { return s.Name == name }
	if i := slices.IndexFunc(s.values, named); i >= 0 {
		return func(o api.Object) api.Value { return o.Values[i] }
	}
	i := slices.IndexFunc(s.ones, named)
	return func(o api.Object) api.Value { return reference(o.Ones[i]) }
}

// number returns an Int.
func number(n int) api.Value { return api.Value{Kind: api.Int, N: n} }

// reference returns an id as it stands in a column: null if it is 0.
func reference(id int) api.Value {
	if id == 0 {
		return api.Value{}
	}
	return number(id)
}
