package query

import (
	"slices"

	"dumbwaiter/api"
	"dumbwaiter/schema"
)

// What an entity has under a name.
const (
	isNothing = iota
	isValue   // a stored field
	isFormula // a computed field
	isOne
	isMany
	isPairs
	isID
	isTenant
	isVersion
	isGone
)

// member is what an entity has under a name.
type member struct {
	what     int
	slot     api.Slot // what Path returns for a path that consists of the name
	place    int      // of a stored field or a RelOne: among the values, or the references, of an object
	formula  api.Expr
	relation api.Relation
}

// isRelation reports whether a member is a relation.
func (x member) isRelation() bool { return x.what == isOne || x.what == isMany || x.what == isPairs }

// entity is an entity with what is asked of it again and again.
type entity struct {
	name    string
	root    api.Entity // of its family
	line    []string   // the entities from the root down to it
	family  []string   // it and the entities below it
	slots   []api.Slot // of its objects
	values  int        // how many of them are values
	members map[string]member
}

// isOf reports whether an entity is another one, or below it.
func (e *entity) isOf(name string) bool { return slices.Contains(e.line, name) }

// tables returns the number of tables in which its objects stand.
func (e *entity) tables() int {
	if e.root.Apart {
		return len(e.line)
	}
	return 1
}

// home returns the name of the table in which an entity of the family has its own columns.
func (e *entity) home(name string) string {
	if e.root.Apart {
		return name
	}
	return e.root.Name
}

// catalog has the entities of a right model, each of them from when it was first asked for.
type catalog struct {
	model    api.Model
	lines    map[string][]int // of each entity: the places of the entities from the root down to it
	entities map[string]*entity
}

// catalogOf returns the catalog of a model.
func catalogOf(m api.Model) (*catalog, api.Errno) {
	if err := schema.Check(m); err != api.OK {
		return nil, err
	}
	c := &catalog{m, map[string][]int{}, map[string]*entity{}}
	for i, e := range m.Entities {
		c.lines[e.Name] = append(slices.Clone(c.lines[e.Parent]), i)
	}
	return c, api.OK
}

// lookup returns the catalog of a model and an entity of it.
func lookup(m api.Model, name string) (*catalog, *entity, api.Errno) {
	c, err := catalogOf(m)
	if err != api.OK {
		return nil, nil, err
	}
	e := c.entity(name)
	if e == nil {
		return nil, nil, api.ErrName
	}
	return c, e, api.OK
}

// entity returns the entity with a name, nil if there is none.
func (c *catalog) entity(name string) *entity {
	if e, ok := c.entities[name]; ok {
		return e
	}
	line, ok := c.lines[name]
	if !ok {
		return nil
	}
	e := &entity{name: name, root: c.model.Entities[line[0]], members: map[string]member{}}
	for _, other := range c.model.Entities {
		if slices.Contains(c.lines[other.Name], line[len(line)-1]) {
			e.family = append(e.family, other.Name)
		}
	}
	e.slots, _ = schema.Slots(c.model, name)
	e.addHeads()
	e.addSlots()
	for _, place := range line {
		x := c.model.Entities[place]
		e.line = append(e.line, x.Name)
		e.addFormulas(x)
		e.addRelations(x)
	}
	c.entities[name] = e
	return e
}

// addHeads adds what objects have beside fields and relations.
func (e *entity) addHeads() {
	add := func(there bool, what int, slot api.Slot) {
		if there {
			slot.Entity = e.name
			e.members[slot.Name] = member{what: what, slot: slot}
		}
	}
	add(true, isID, api.Slot{Name: "id", Kind: api.Int})
	add(e.root.Tenant, isTenant, api.Slot{Name: "tenant", Kind: api.Int})
	add(e.root.Version, isVersion, api.Slot{Name: "version", Kind: api.Int})
	add(e.root.Soft, isGone, api.Slot{Name: "gone", Kind: api.Moment, Null: true})
}

// addSlots adds the stored fields, and the places of the RelOnes.
func (e *entity) addSlots() {
	for i, slot := range e.slots {
		if slot.Kind == 0 {
			slot.Kind = api.Int
			e.members[slot.Name] = member{what: isOne, slot: slot, place: i - e.values}
			continue
		}
		e.members[slot.Name] = member{what: isValue, slot: slot, place: i}
		e.values++
	}
}

// addFormulas adds the computed fields that an entity on the line has itself.
func (e *entity) addFormulas(x api.Entity) {
	for _, f := range x.Fields {
		if len(f.Formula) > 0 {
			slot := api.Slot{Name: f.Name, Entity: x.Name, Kind: f.Kind, Null: true}
			e.members[f.Name] = member{what: isFormula, slot: slot, formula: f.Formula[0]}
		}
	}
}

// addRelations adds the relations that an entity on the line has itself.
func (e *entity) addRelations(x api.Entity) {
	for _, r := range x.Relations {
		one := e.members[r.Name]
		one.relation = r
		switch r.Kind {
		case api.RelMany:
			one.what = isMany
		case api.RelPairs:
			one.what = isPairs
		}
		one.slot.Name, one.slot.Entity, one.slot.To = r.Name, x.Name, r.To
		e.members[r.Name] = one
	}
}
