package schema

import (
	"dumbwaiter/api"
)

// Root returns the root of the family of an entity.
func Root(m api.Model, entity string) (string, api.Errno) {
	v, place, err := lookup(m, entity)
	if err != api.OK {
		return "", err
	}
	return v.root(place).Name, api.OK
}

// Family returns an entity and all below it.
func Family(m api.Model, entity string) ([]string, api.Errno) {
	v, place, err := lookup(m, entity)
	if err != api.OK {
		return nil, err
	}
	var l []string
	for _, p := range v.family(place) {
		l = append(l, v.entity(p).Name)
	}
	return l, api.OK
}

// Slots returns what an object of an entity has values and references for.
func Slots(m api.Model, entity string) ([]api.Slot, api.Errno) {
	v, place, err := lookup(m, entity)
	if err != api.OK {
		return nil, err
	}
	var l []api.Slot
	for _, s := range v.shape(place).all() {
		l = append(l, s.Slot)
	}
	return l, api.OK
}

// Formulas returns the computed fields of an entity.
func Formulas(m api.Model, entity string) ([]api.Item, api.Errno) {
	v, place, err := lookup(m, entity)
	if err != api.OK {
		return nil, err
	}
	var l []api.Item
	for _, p := range v.lines[place] {
		for _, f := range v.entity(p).Fields {
			for _, formula := range f.Formula {
				l = append(l, api.Item{Name: f.Name, Expr: copyScalar(formula)})
			}
		}
	}
	return l, api.OK
}

// copyScalar returns a scalar expression that shares no memory with a right one.
func copyScalar(e api.Expr) api.Expr {
	args := e.Args
	e.Args, e.Sub, e.Group, e.Order = nil, nil, nil, nil
	for _, arg := range args {
		e.Args = append(e.Args, copyScalar(arg))
	}
	return e
}

// Relations returns the relations of an entity.
func Relations(m api.Model, entity string) ([]api.Relation, api.Errno) {
	v, place, err := lookup(m, entity)
	if err != api.OK {
		return nil, err
	}
	var l []api.Relation
	for _, p := range v.lines[place] {
		l = append(l, v.entity(p).Relations...)
	}
	return l, api.OK
}

// Owner returns the entity and the relation that has the pairs of a RelPairs.
func Owner(m api.Model, entity, relation string) (string, string, api.Errno) {
	v, place, err := lookup(m, entity)
	if err != api.OK {
		return "", "", err
	}
	r, _, ok := v.relation(place, relation, api.RelPairs)
	if !ok {
		return "", "", api.ErrName
	}
	owner, name := v.owner(place, r)
	return v.entity(owner).Name, name, api.OK
}
