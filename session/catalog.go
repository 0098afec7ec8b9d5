package session

import (
	"cmp"
	"maps"
	"slices"

	"dumbwaiter/api"
	"dumbwaiter/layout"
	"dumbwaiter/schema"
)

// entity is an entity with what is asked of its objects again and again.
type entity struct {
	name     string
	place    int            // of the root of its family in the model
	root     api.Entity     // of its family
	line     []string       // the entities from the root down to it
	values   []api.Cell     // the values of its objects, as columns of expressions
	initial  []api.Value    // their Defaults
	ones     []api.Relation // the RelOnes, in the order of references
	lists    map[string]list
	formulas map[string]api.Expr
}

// list is a RelMany or a RelPairs. The other fields are those of a RelPairs.
type list struct {
	api.Relation
	owner, name       string // the entity and the relation that have its pairs
	right             string // the entity of the Right ones of these pairs
	forward, backward bool   // whether an object that has the relation is the Left one of its pairs, and the Right one (both, if it is symmetric)
}

// isOf reports whether an entity is another one, or below it.
func (e *entity) isOf(name string) bool { return slices.Contains(e.line, name) }

// one returns the place of a RelOne among the references, -1 if there is none.
func (e *entity) one(name string) int {
	return slices.IndexFunc(e.ones, func(r api.Relation) bool { return r.Name == name })
}

// value returns the place of a slot among the values, -1 if there is none.
func (e *entity) value(name string) int {
	return slices.IndexFunc(e.values, func(c api.Cell) bool { return c.Name == name })
}

// name is what an object is found by: the root of its family, its tenant and its id. For an object without an id it is minus its handle as id, and nothing else.
type name struct {
	family     string
	tenant, id int
}

// compareNames compares objects of one family by their order in a world.
func compareNames(a, b name) int {
	return cmp.Or(cmp.Compare(a.tenant, b.tenant), cmp.Compare(a.id, b.id))
}

// catalog has the entities of a right model.
type catalog struct {
	model    api.Model
	entities map[string]*entity
}

// catalogOf returns the catalog of a right model, which it keeps.
func catalogOf(m api.Model) *catalog {
	c := &catalog{m, map[string]*entity{}}
	for place, x := range m.Entities {
		e := &entity{name: x.Name, place: place, root: x, lists: map[string]list{}, formulas: map[string]api.Expr{}}
		if above := c.entities[x.Parent]; above != nil {
			e.place, e.root, e.line, e.ones = above.place, above.root, slices.Clone(above.line), slices.Clone(above.ones)
			maps.Copy(e.lists, above.lists)
		}
		e.line = append(e.line, x.Name)
		c.addValues(e)
		for _, r := range x.Relations {
			c.addRelation(e, r)
		}
		c.entities[x.Name] = e
	}
	return c
}

// addValues adds the values and the computed fields of an entity.
func (c *catalog) addValues(e *entity) {
	slots, _ := schema.Slots(c.model, e.name)
	for _, s := range slots {
		if s.Kind != 0 {
			e.values = append(e.values, api.Cell{Name: s.Name, Kind: s.Kind})
			e.initial = append(e.initial, layout.Field(c.model, s).Default)
		}
	}
	formulas, _ := schema.Formulas(c.model, e.name)
	for _, f := range formulas {
		e.formulas[f.Name] = f.Expr
	}
}

// addRelation adds a relation that an entity has itself.
func (c *catalog) addRelation(e *entity, r api.Relation) {
	x := list{Relation: r}
	switch r.Kind {
	case api.RelOne:
		e.ones = append(e.ones, r)
		return
	case api.RelPairs:
		x.owner, x.name, _ = schema.Owner(c.model, e.name, r.Name)
		x.forward = x.owner == e.name && x.name == r.Name
		x.backward = !x.forward || r.To == e.name && r.Back == r.Name
		x.right = e.name
		if x.forward {
			x.right = r.To
		}
	}
	e.lists[r.Name] = x
}

// nameIn returns the name of the object of an entity, or below it, with an id, to which something of a tenant refers.
func (c *catalog) nameIn(entity string, tenant, id int) name {
	root := &c.entities[entity].root
	switch {
	case id < 0:
		return name{id: id}
	case !root.Tenant:
		tenant = 0
	}
	return name{root.Name, tenant, id}
}

// nameOf returns the name of an object.
func (c *catalog) nameOf(o api.Object) name { return c.nameIn(o.Entity, o.Tenant, o.ID) }

// target returns the name of the object to which an object refers by the RelOne at a place.
func (c *catalog) target(o api.Object, one int) name {
	return c.nameIn(c.entities[o.Entity].ones[one].To, o.Tenant, o.Ones[one])
}

// ends returns the names of the objects of a pair.
func (c *catalog) ends(p api.PairOf) (left, right name) {
	x := c.entities[p.Entity].lists[p.Relation]
	return c.nameIn(p.Entity, p.Tenant, p.Left), c.nameIn(x.right, p.Tenant, p.Right)
}

// pairOf returns the pair of two objects that a RelPairs of the first one has. (Of its tenant, if pairs have one: then the first object has it, too.)
func (c *catalog) pairOf(x list, first, second api.Object) api.PairOf {
	p := api.PairOf{Entity: x.owner, Relation: x.name, Left: first.ID, Right: second.ID}
	if c.entities[x.owner].root.Tenant {
		p.Tenant = first.Tenant
	}
	if !x.forward {
		p.Left, p.Right = p.Right, p.Left
	}
	return c.ordered(p)
}

// ordered returns a pair as it stands in a world: the lesser id of a symmetric relation is Left.
func (c *catalog) ordered(p api.PairOf) api.PairOf {
	if x := c.entities[p.Entity].lists[p.Relation]; x.forward && x.backward && p.Left > p.Right {
		p.Left, p.Right = p.Right, p.Left
	}
	return p
}
