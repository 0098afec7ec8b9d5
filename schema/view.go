package schema

import (
	"slices"

	"dumbwaiter/api"
)

// view is a model with what is asked of its entities again and again. Entities are named by their places in the model. Each of them must have another name, and be behind its Parent.
type view struct {
	model  api.Model
	places map[string]int
	lines  [][]int // of each entity: the entities from the root down to it
	owns   []shape // of each entity: its own slots
}

// slot is a slot with its column, and with what the field says of its values.
type slot struct {
	api.Slot
	column  string
	initial api.Value
	texts   []string
}

// shape is a list of slots: those of values and those of references.
type shape struct{ values, ones []slot }

// all returns all slots.
func (s shape) all() []slot { return slices.Concat(s.values, s.ones) }

// emptyView returns the view of a model to which no entity has been added yet.
func emptyView(m api.Model) view { return view{model: m, places: map[string]int{}} }

// viewOf returns the view of a right model.
func viewOf(m api.Model) view {
	v := emptyView(m)
	for range m.Entities {
		v.add()
	}
	return v
}

// add adds the next entity, and returns its root.
func (v *view) add() int {
	place := len(v.lines)
	var above []int
	if parent := v.entity(place).Parent; parent != "" {
		above = v.lines[v.places[parent]]
	}
	v.places[v.entity(place).Name] = place
	v.lines = append(v.lines, append(slices.Clone(above), place))
	v.owns = append(v.owns, shape{v.ownValues(place), v.ownOnes(place)})
	return v.top(place)
}

// lookup returns the view of a model and the place of an entity, with the errors that all functions with an entity share.
func lookup(m api.Model, entity string) (view, int, api.Errno) {
	if err := Check(m); err != api.OK {
		return view{}, 0, err
	}
	v := viewOf(m)
	place, ok := v.places[entity]
	if !ok {
		return view{}, 0, api.ErrName
	}
	return v, place, api.OK
}

func (v view) entity(place int) api.Entity { return v.model.Entities[place] }

// top returns the place of the root of the family of an entity.
func (v view) top(place int) int { return v.lines[place][0] }

// root returns the root of the family of an entity.
func (v view) root(place int) api.Entity { return v.entity(v.top(place)) }

// isOf reports whether an entity is another one, or below it.
func (v view) isOf(place, other int) bool { return slices.Contains(v.lines[place], other) }

// family returns an entity and those below it.
func (v view) family(place int) []int {
	var l []int
	for p := range v.lines {
		if v.isOf(p, place) {
			l = append(l, p)
		}
	}
	return l
}

// fields returns the fields of an embedded value.
func (v view) fields(embed string) []api.Field {
	for _, e := range v.model.Embeds {
		if e.Name == embed {
			return e.Fields
		}
	}
	return nil
}

// ownValues returns the slots of the stored fields of an entity itself.
func (v view) ownValues(place int) []slot {
	var l []slot
	entity := v.entity(place)
	add := func(name, column string, f api.Field) {
		l = append(l, slot{api.Slot{Name: name, Entity: entity.Name, Kind: f.Kind, Null: f.Null}, column, f.Default, f.Texts})
	}
	for _, f := range entity.Fields {
		switch {
		case f.Kind == 0:
			for _, part := range v.fields(f.Of) {
				add(f.Name+"."+part.Name, f.Name+"_"+part.Name, part)
			}
		case len(f.Formula) == 0:
			add(f.Name, f.Name, f)
		}
	}
	return l
}

// ownOnes returns the slots of the RelOnes of an entity itself.
func (v view) ownOnes(place int) []slot {
	var l []slot
	entity := v.entity(place)
	for _, r := range entity.Relations {
		if r.Kind == api.RelOne {
			l = append(l, slot{Slot: api.Slot{Name: r.Name, Entity: entity.Name, To: r.To, Null: !r.Need}, column: r.Name + "_id"})
		}
	}
	return l
}

// shape returns the slots of the objects of an entity: those of each entity from the root down to it.
func (v view) shape(place int) shape {
	var s shape
	for _, p := range v.lines[place] {
		s.values = append(s.values, v.owns[p].values...)
		s.ones = append(s.ones, v.owns[p].ones...)
	}
	return s
}

// shapes returns the shapes of all entities.
func (v view) shapes() []shape {
	l := make([]shape, len(v.lines))
	for place := range l {
		l[place] = v.shape(place)
	}
	return l
}

// relation returns a relation of an entity itself, and its number.
func (v view) relation(place int, name string, kind int) (api.Relation, int, bool) {
	for i, r := range v.entity(place).Relations {
		if r.Name == name && r.Kind == kind {
			return r, i, true
		}
	}
	return api.Relation{}, 0, false
}

// owner returns the entity and the relation that has the pairs of a RelPairs.
func (v view) owner(place int, r api.Relation) (int, string) {
	if r.Back == "" {
		return place, r.Name
	}
	other := v.places[r.To]
	_, number, _ := v.relation(place, r.Name, api.RelPairs)
	_, otherNumber, _ := v.relation(other, r.Back, api.RelPairs)
	if other < place || other == place && otherNumber < number {
		return other, r.Back
	}
	return place, r.Name
}

// hasPairs reports whether a relation of an entity is a RelPairs with pairs of its own.
func (v view) hasPairs(place int, r api.Relation) bool {
	if r.Kind != api.RelPairs {
		return false
	}
	owner, name := v.owner(place, r)
	return owner == place && name == r.Name
}
