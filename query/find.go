package query

import (
	"slices"

	"dumbwaiter/api"
	"dumbwaiter/operate"
	"dumbwaiter/value"
)

// Objects returns the objects of a find in a world.
func Objects(m api.Model, w api.World, f api.Find, params []api.Value) ([]api.Ref, api.Errno) {
	s, places, err := findIn(m, w, f, params)
	if err != api.OK {
		return nil, err
	}
	return mapped(places, s.ref), api.OK
}

// findIn returns the scene of a world that is not restricted to what is seen, and the places of the objects of a find in it.
func findIn(m api.Model, w api.World, f api.Find, params []api.Value) (*scene, []int, api.Errno) {
	s, err := sceneFor(m, w)
	if err != api.OK {
		return nil, nil, err
	}
	kinds, err := kindsOf(params)
	if err != api.OK {
		return nil, nil, err
	}
	e, err := checker{s.catalog, kinds, true}.checkFind(f)
	if err != api.OK {
		return nil, nil, err
	}
	j := judge{sceneOf(s.catalog, seen(m, w, f.Tenant, f.Gone)), params}
	found := j.ordered(j.chosen(e, f.Where), f.Order, e)
	found = found[min(f.Offset, len(found)):]
	if f.Limit >= 0 {
		found = found[:min(f.Limit, len(found))]
	}
	return s, mapped(found, func(place int) int {
		o := j.world.Objects[place]
		return s.find(e, o.Tenant, o.ID)
	}), api.OK
}

// chosen returns the places of the objects of an entity, or below it, for which a condition is true.
func (j judge) chosen(e *entity, where []api.Expr) []int {
	rules := mapped(where, func(x api.Expr) rule { return j.rule(x, &spot{entity: e}) })
	var l []int
	for place := range j.world.Objects {
		refuses := func(r rule) bool { return !operate.IsTrue(r(&frame{place: place})) }
		if j.entityAt(place).isOf(e.name) && !slices.ContainsFunc(rules, refuses) {
			l = append(l, place)
		}
	}
	return l
}

// ordered returns places of objects of an entity in an order. They must be sorted: then those that agree in all else are sorted by tenant and id.
func (j judge) ordered(places []int, order []api.By, e *entity) []int {
	keys := map[int][]api.Value{}
	for _, o := range order {
		r, _ := j.toValue(e, o.Path)
		look := j.look(r)
		for _, place := range places {
			keys[place] = append(keys[place], look(place))
		}
	}
	slices.SortStableFunc(places, func(a, b int) int {
		for i, o := range order {
			if c := compareBy(o, keys[a][i], keys[b][i]); c != 0 {
				return c
			}
		}
		return 0
	})
	return places
}

// compareBy compares two values by an element of an order. Last says where nulls are, whether it is Desc or not.
func compareBy(o api.By, a, b api.Value) int {
	c := value.Compare(a, b)
	hasNull := a.Kind == api.Null || b.Kind == api.Null
	if hasNull && o.Last || !hasNull && o.Desc {
		return -c
	}
	return c
}

// Answer returns a row for each object of a find.
func Answer(m api.Model, w api.World, f api.Find, params []api.Value) ([][]api.Value, api.Errno) {
	s, places, err := findIn(m, w, f, params)
	if err != api.OK {
		return nil, err
	}
	columns := s.columns(s.entity(f.Entity))
	return mapped(places, func(place int) []api.Value { return s.row(s.world.Objects[place], columns) }), api.OK
}

// heads is the number of values of a row ahead of those of slots.
const heads = 5

// row returns the row of an object in an answer with these columns.
func (c *catalog) row(o api.Object, columns []api.Slot) []api.Value {
	// A family without tenants or versions has 0 for them, as a reference to nothing.
	row := []api.Value{textOf(o.Entity), reference(o.Tenant), number(o.ID), reference(o.Version), o.Gone}
	for _, slot := range columns {
		v := api.Value{}
		if x, ok := c.entity(o.Entity).members[slot.Name]; ok {
			v = c.getter(x)(o)
		}
		row = append(row, v)
	}
	return row
}

// Object returns the object of a row.
func Object(m api.Model, name string, row []api.Value) (api.Object, api.Errno) {
	c, e, err := lookup(m, name)
	if err != api.OK {
		return api.Object{}, err
	}
	return c.object(e, row)
}

// object returns the object of a row of an answer of an entity.
func (c *catalog) object(e *entity, row []api.Value) (api.Object, api.Errno) {
	columns := c.columns(e)
	if len(row) != heads+len(columns) {
		return api.Object{}, api.ErrForm
	}
	own := c.entity(row[0].S)
	if own == nil || row[0] != textOf(own.name) || !own.isOf(e.name) {
		return api.Object{}, api.ErrName
	}
	if !own.hasKinds(row, columns) {
		return api.Object{}, api.ErrType
	}
	if err := own.checkHeads(row); err != api.OK {
		return api.Object{}, err
	}
	o := api.Object{Entity: own.name, Tenant: row[1].N, ID: row[2].N, Version: row[3].N, Gone: row[4]}
	o.Values, o.Ones = make([]api.Value, own.values), make([]int, len(own.slots)-own.values)
	for i, slot := range columns {
		v := row[heads+i]
		switch x := own.members[slot.Name]; x.what {
		case isValue:
			o.Values[x.place] = v
		case isOne:
			o.Ones[x.place] = v.N
		}
	}
	return o, api.OK
}

// hasKinds reports whether the values of a row behind the first one are right, and null or of the kind that objects of the entity have there.
func (e *entity) hasKinds(row []api.Value, columns []api.Slot) bool {
	names := append([]string{"tenant", "id", "version", "gone"}, mapped(columns, func(s api.Slot) string { return s.Name })...)
	for i, name := range names {
		v := row[1+i]
		if !isRight(v) || !fits(v.Kind, e.members[name].slot.Kind) {
			return false
		}
	}
	return true
}

// checkHeads checks tenant, id and version of a row whose values have the right kinds.
func (e *entity) checkHeads(row []api.Value) api.Errno {
	there := [...]struct {
		v    api.Value
		asks bool
	}{{row[1], e.root.Tenant}, {row[2], true}, {row[3], e.root.Version}}
	for _, x := range there {
		if x.asks && x.v.Kind == api.Null {
			return api.ErrNull
		}
	}
	for _, x := range there {
		if x.asks && x.v.N < 1 {
			return api.ErrArg
		}
	}
	return api.OK
}
