package query

import (
	"slices"

	"dumbwaiter/api"
	"dumbwaiter/schema"
)

// objectName is what an object is found by: the root of its family, its tenant and its id.
type objectName struct {
	root       string
	tenant, id int
}

// relationName names a relation by the entity that has it.
type relationName struct{ entity, relation string }

// scene is a world in which objects are looked up.
type scene struct {
	*catalog
	world   api.World
	places  map[objectName]int
	related map[relationName]map[int][]int // of the relations that were asked for: the places of the objects that those at a place have
}

// sceneOf returns the scene of a world.
func sceneOf(c *catalog, w api.World) *scene {
	s := &scene{c, w, map[objectName]int{}, map[relationName]map[int][]int{}}
	for i, o := range w.Objects {
		s.places[nameIn(c.entity(o.Entity), o.Tenant, o.ID)] = i
	}
	return s
}

// sceneFor returns the scene of a model and a world.
func sceneFor(m api.Model, w api.World) (*scene, api.Errno) {
	c, err := catalogOf(m)
	if err != api.OK {
		return nil, err
	}
	if err := schema.CheckWorld(m, w); err != api.OK {
		return nil, err
	}
	return sceneOf(c, w), api.OK
}

// nameIn returns the name of the object of an entity, or below it, with an id, to which something of a tenant refers.
func nameIn(e *entity, tenant, id int) objectName {
	if !e.root.Tenant {
		tenant = 0
	}
	return objectName{e.root.Name, tenant, id}
}

// objectIn returns the scene of a model and a world, and the place of an object in it.
func objectIn(m api.Model, w api.World, o api.Ref) (*scene, int, api.Errno) {
	s, err := sceneFor(m, w)
	if err != api.OK {
		return nil, 0, err
	}
	e := s.entity(o.Entity)
	if e == nil {
		return nil, 0, api.ErrNone
	}
	i, ok := s.places[objectName{e.root.Name, o.Tenant, o.ID}]
	if !ok || w.Objects[i].Entity != o.Entity {
		return nil, 0, api.ErrNone
	}
	return s, i, api.OK
}

// entityAt returns the entity of the object at a place.
func (s *scene) entityAt(place int) *entity { return s.entity(s.world.Objects[place].Entity) }

// ref names the object at a place.
func (s *scene) ref(place int) api.Ref {
	o := s.world.Objects[place]
	return api.Ref{Entity: o.Entity, Tenant: o.Tenant, ID: o.ID}
}

// find returns the place of an object to which something of a tenant refers, -1 if there is none.
func (s *scene) find(e *entity, tenant, id int) int {
	if i, ok := s.places[nameIn(e, tenant, id)]; ok {
		return i
	}
	return -1
}

// follow returns the place of the object to which a RelOne of the object at a place leads, -1 if there is none.
func (s *scene) follow(place int, one member) int {
	o := s.world.Objects[place]
	return s.find(s.entity(one.slot.To), o.Tenant, o.Ones[one.place])
}

// followAll is follow for several RelOnes, one after another.
func (s *scene) followAll(place int, ones []member) int {
	for _, one := range ones {
		if place < 0 {
			return -1
		}
		place = s.follow(place, one)
	}
	return place
}

// many returns the places of the objects that the object at a place has by a RelMany or RelPairs, sorted.
func (s *scene) many(place int, x member) []int {
	name := relationName{x.slot.Entity, x.slot.Name}
	lists, ok := s.related[name]
	if !ok {
		lists = map[int][]int{}
		// What refers to nothing stands at -1.
		add := func(from, to int) { lists[from] = append(lists[from], to) }
		if x.what == isMany {
			s.eachBack(x, add)
		} else {
			s.eachPair(x, add)
		}
		for _, l := range lists {
			slices.Sort(l)
		}
		s.related[name] = lists
	}
	return lists[place]
}

// eachBack calls add for the objects that are related by a RelMany.
func (s *scene) eachBack(x member, add func(from, to int)) {
	back := s.entity(x.slot.To).members[x.relation.Back]
	for i := range s.world.Objects {
		if s.entityAt(i).isOf(x.slot.To) {
			add(s.follow(i, back), i)
		}
	}
}

// eachPair calls add for the objects that are related by a RelPairs.
func (s *scene) eachPair(x member, add func(from, to int)) {
	p := s.pairing(x)
	for _, pair := range s.world.Pairs {
		if pair.Entity != p.owner || pair.Relation != p.relation {
			continue
		}
		left, right := s.find(p.left, pair.Tenant, pair.Left), s.find(p.right, pair.Tenant, pair.Right)
		if p.forward {
			add(left, right)
		}
		if p.backward && !(p.forward && left == right) {
			add(right, left)
		}
	}
}

// pairing says which pairs a RelPairs has, and which of their ends an object can be that has the other one: forward the left one, backward the right one.
type pairing struct {
	owner, relation   string
	left, right       *entity
	forward, backward bool
}

// pairing returns the pairing of a RelPairs.
func (c *catalog) pairing(x member) pairing {
	owner, relation, _ := schema.Owner(c.model, x.slot.Entity, x.slot.Name)
	p := pairing{owner: owner, relation: relation, left: c.entity(owner)}
	p.right = c.entity(p.left.members[relation].slot.To)
	p.forward = owner == x.slot.Entity && relation == x.slot.Name
	symmetric := p.forward && x.slot.To == x.slot.Entity && x.relation.Back == x.slot.Name
	p.backward = !p.forward || symmetric
	return p
}
