package clone

import (
	"slices"

	"dumbwaiter/api"
)

// Expr copies a condition or a scalar expression.
func Expr(e api.Expr) api.Expr {
	e.Args, e.Sub, e.Group, e.Order = Exprs(e.Args), nil, nil, nil
	return e
}

// Exprs copies conditions or scalar expressions.
func Exprs(l []api.Expr) []api.Expr { return each(l, Expr) }

// Model copies a model.
func Model(m api.Model) api.Model {
	return api.Model{Embeds: each(m.Embeds, embed), Entities: each(m.Entities, entity)}
}

func embed(e api.Embed) api.Embed {
	e.Fields = each(e.Fields, field)
	return e
}

func entity(e api.Entity) api.Entity {
	e.Fields = each(e.Fields, field)
	e.Relations = slices.Clone(e.Relations)
	e.Uniques = each(e.Uniques, slices.Clone[[]string])
	e.Indexes = each(e.Indexes, slices.Clone[[]string])
	return e
}

func field(f api.Field) api.Field {
	f.Texts = slices.Clone(f.Texts)
	f.Formula = Exprs(f.Formula)
	return f
}

// Object copies an object.
func Object(o api.Object) api.Object {
	o.Values, o.Ones = slices.Clone(o.Values), slices.Clone(o.Ones)
	return o
}

// Objects copies objects.
func Objects(l []api.Object) []api.Object { return each(l, Object) }

// World copies a world.
func World(w api.World) api.World {
	return api.World{Objects: Objects(w.Objects), Pairs: slices.Clone(w.Pairs)}
}
