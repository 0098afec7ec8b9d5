package query

import (
	"slices"

	"dumbwaiter/api"
)

// What After adds to a find is bounded by these: for each element of its order, and for tenant and id, and in levels.
const (
	afterParts  = 20
	afterLevels = 16
)

// After returns a find that has the answer of another one behind a row.
func After(m api.Model, f api.Find, row []api.Value) (api.Find, api.Errno) {
	c, err := catalogOf(m)
	if err != api.OK {
		return api.Find{}, err
	}
	x := checker{catalog: c}
	weight, err := x.weigh(f)
	if err == api.OK && weight > api.MaxWeight {
		err = api.ErrLarge
	}
	if err != api.OK {
		return api.Find{}, err
	}
	e := c.entity(f.Entity)
	if _, err := c.object(e, row); err != api.OK {
		return api.Find{}, err
	}
	keys, err := c.keysOf(e, f.Order, row)
	if err != api.OK {
		return api.Find{}, err
	}
	added := afterParts * (len(f.Order) + 2)
	if weight+added > api.MaxWeight || !leavesRoom(f.Where, added) {
		return api.Find{}, api.ErrLarge
	}
	where := behind(keys)
	for _, e := range f.Where {
		where = operation(api.OpAnd, copied(e), where)
	}
	f.Where, f.Offset = []api.Expr{where}, 0
	f.Order, f.Include = slices.Clone(f.Order), slices.Clone(f.Include)
	return f, api.OK
}

// leavesRoom reports whether so many parts can be added to a condition.
func leavesRoom(where []api.Expr, added int) bool {
	for _, e := range where {
		parts, levels := size(e)
		if parts > api.MaxParts-added || levels > api.MaxDeep-afterLevels {
			return false
		}
	}
	return true
}

// key is an element of an order with its value in a row.
type key struct {
	by api.By
	v  api.Value
}

// keysOf returns the elements by which the objects of an entity are ordered, tenant and id among them, with their values in a row.
func (c *catalog) keysOf(e *entity, order []api.By, row []api.Value) ([]key, api.Errno) {
	places := map[string]int{"tenant": 1, "id": 2, "version": 3, "gone": 4}
	for i, slot := range c.columns(e) {
		if slot.Kind != 0 {
			places[slot.Name] = heads + i
		}
	}
	var keys []key
	for _, o := range order {
		place, ok := places[o.Path]
		if !ok {
			return nil, api.ErrForm
		}
		keys = append(keys, key{o, row[place]})
	}
	for _, name := range scoped(e.root.Tenant, "id") {
		keys = append(keys, key{api.By{Path: name}, row[places[name]]})
	}
	return keys, api.OK
}

// behind returns whether an object comes behind one that has these keys.
func behind(keys []key) api.Expr {
	k := keys[0]
	further := k.further()
	if len(keys) == 1 {
		return further
	}
	same := operation(api.OpSame, column("", k.by.Path), literal(k.v))
	return operation(api.OpOr, further, operation(api.OpAnd, same, behind(keys[1:])))
}

// further returns whether an object comes behind by this key alone.
func (k key) further() api.Expr {
	path := column("", k.by.Path)
	null := operation(api.OpNull, path)
	switch {
	case k.v.Kind == api.Null && k.by.Last:
		return literal(api.Value{Kind: api.Bool})
	case k.v.Kind == api.Null:
		return operation(api.OpNot, null)
	}
	op := api.OpGreater
	if k.by.Desc {
		op = api.OpLess
	}
	beyond := operation(op, path, literal(k.v))
	if k.by.Last {
		return operation(api.OpOr, beyond, null)
	}
	return beyond
}
