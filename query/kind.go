package query

import (
	"dumbwaiter/api"
	"dumbwaiter/same"
	"dumbwaiter/value"
)

// checker checks conditions with parameters of some kinds.
type checker struct {
	*catalog
	params []int
	nulls  bool // Null is a kind of parameters, too: that of null
}

// spot is where a condition stands: the entity from which it is read, and the spot of the next outer condition, if there is one.
type spot struct {
	entity *entity
	outer  *spot
}

// of returns the spot from which a part reads its path.
func (at *spot) of(e api.Expr) *spot {
	if e.Kind == api.XColumn && e.Source == "up" {
		return at.outer
	}
	return at
}

// KindOf returns the kind of a condition that is read from an entity.
func KindOf(m api.Model, name string, e api.Expr, params []int) (int, api.Errno) {
	c, err := catalogOf(m)
	if err != api.OK {
		return 0, err
	}
	x := checker{catalog: c, params: params}
	if err := x.checkKinds(); err != api.OK {
		return 0, err
	}
	at := c.entity(name)
	if at == nil {
		return 0, api.ErrName
	}
	return x.kindOfWhole(e, at)
}

// checkKinds checks the kinds of parameters.
func (c checker) checkKinds() api.Errno {
	for _, kind := range c.params {
		if !isKind(kind) && !(c.nulls && kind == api.Null) {
			return api.ErrKind
		}
	}
	return api.OK
}

// kindOfWhole returns the kind of a condition.
func (c checker) kindOfWhole(e api.Expr, at *entity) (int, api.Errno) {
	if isTooLarge(e) {
		return 0, api.ErrLarge
	}
	return c.kindOf(e, &spot{entity: at})
}

// checkWhere checks a condition that says which objects there are.
func (c checker) checkWhere(l []api.Expr, at *entity) api.Errno {
	for _, e := range l {
		if err := c.checkKinds(); err != api.OK {
			return err
		}
		if err := asBool(c.kindOfWhole(e, at)); err != api.OK {
			return err
		}
	}
	return api.OK
}

// asBool returns the error of a condition that has a kind, or an error: ErrType if the kind does not fit Bool.
func asBool(kind int, err api.Errno) api.Errno {
	if err == api.OK && !fits(kind, api.Bool) {
		return api.ErrType
	}
	return err
}

// kindOf returns the kind of a part.
func (c checker) kindOf(e api.Expr, at *spot) (int, api.Errno) {
	switch e.Kind {
	case api.XSome, api.XEvery, api.XMany:
		return c.kindOfMany(e, at)
	case api.XIs:
		return c.kindOfIs(e, at)
	}
	var kinds []int
	for _, arg := range e.Args {
		kind, err := c.kindOf(arg, at)
		if err != api.OK {
			return 0, err
		}
		kinds = append(kinds, kind)
	}
	e = standing(e, kinds)
	switch {
	case e.Kind == api.XColumn:
		return c.kindOfColumn(e, at)
	case e.Kind == api.XParam && e.N >= 0 && e.N < len(c.params):
		kind := c.params[e.N]
		e.N = 0
		if _, err := value.KindOf(e, nil, []int{api.Bool}); err != api.OK {
			return 0, err
		}
		return kind, api.OK
	}
	return value.KindOf(e, nil, nil)
}

// standing returns a part with values of some kinds standing for its Args: value.KindOf says then what is wrong with the part itself.
func standing(e api.Expr, kinds []int) api.Expr {
	e.Args = mapped(kinds, func(kind int) api.Expr {
		return api.Expr{Kind: api.XValue, Value: api.Value{Kind: kind}}
	})
	return e
}

// kindOfColumn returns the kind of an XColumn.
func (c checker) kindOfColumn(e api.Expr, at *spot) (int, api.Errno) {
	// What is wrong with an XColumn beside its names is what would be wrong if there were such a column.
	if _, err := value.KindOf(e, []api.Cell{{Source: e.Source, Name: e.Name}}, nil); err != api.OK {
		return 0, err
	}
	from := at.of(e)
	if e.Source != "" && e.Source != "up" || from == nil {
		return 0, api.ErrName
	}
	r, err := c.toValue(from.entity, e.Name)
	if err != api.OK {
		return 0, err
	}
	return r.end.slot.Kind, api.OK
}

// kindOfMany returns the kind of an XSome, XEvery or XMany.
func (c checker) kindOfMany(e api.Expr, at *spot) (int, api.Errno) {
	if !isFormed(e) {
		return 0, api.ErrForm
	}
	r, err := c.toMany(at.entity, e.Name)
	if err != api.OK {
		return 0, err
	}
	inner := &spot{c.entity(r.end.relation.To), at}
	for _, arg := range e.Args {
		if err := asBool(c.kindOf(arg, inner)); err != api.OK {
			return 0, err
		}
	}
	if e.Kind == api.XMany {
		return api.Int, api.OK
	}
	return api.Bool, api.OK
}

// kindOfIs returns the kind of an XIs.
func (c checker) kindOfIs(e api.Expr, at *spot) (int, api.Errno) {
	if !isFormed(e) {
		return 0, api.ErrForm
	}
	if e.Source != "" {
		if _, err := c.toOne(at.entity, e.Source); err != api.OK {
			return 0, err
		}
	}
	if c.entity(e.Name) == nil {
		return 0, api.ErrName
	}
	return api.Bool, api.OK
}

// isFormed reports whether an XSome, XEvery, XMany or XIs has as many Args as it must, and fields that it does not use are zero.
func isFormed(e api.Expr) bool {
	least, most := 0, 1
	switch e.Kind {
	case api.XEvery:
		least = 1
	case api.XIs:
		most, e.Source = 0, ""
	}
	count := len(e.Args)
	e.Args, e.Name = nil, ""
	return count >= least && count <= most && same.Expr(e, api.Expr{Kind: e.Kind})
}

// visit calls tell for the parts of a condition that is right, with the spots at which they stand.
func (c *catalog) visit(e api.Expr, at *spot, tell func(e api.Expr, at *spot)) {
	tell(e, at)
	inner := at
	if isMulti(e) {
		inner = &spot{c.entity(c.routeOf(e, at).end.relation.To), at}
	}
	for _, arg := range e.Args {
		c.visit(arg, inner, tell)
	}
}

// isMulti reports whether a part asks for many objects.
func isMulti(e api.Expr) bool {
	return e.Kind == api.XSome || e.Kind == api.XEvery || e.Kind == api.XMany
}

// routeOf returns the route of the path of a part of a condition that is right, an empty one if it has none.
func (c *catalog) routeOf(e api.Expr, at *spot) route {
	var r route
	switch {
	case e.Kind == api.XColumn:
		r, _ = c.toValue(at.of(e).entity, e.Name)
	case isMulti(e):
		r, _ = c.toMany(at.entity, e.Name)
	case e.Kind == api.XIs && e.Source != "":
		r, _ = c.toOne(at.entity, e.Source)
	}
	return r
}
