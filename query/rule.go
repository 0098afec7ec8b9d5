package query

import (
	"slices"

	"dumbwaiter/api"
	"dumbwaiter/operate"
	"dumbwaiter/value"
)

// frame is what a condition is asked of: an object, by its place, and the frame of the next outer condition.
type frame struct {
	place int
	outer *frame
}

// rule gives the value of a condition for a frame.
type rule func(f *frame) api.Value

// look returns what gives the value of a path for the object at a place.
func (s *scene) look(r route) func(place int) api.Value {
	get := s.getter(r.end)
	return func(place int) api.Value {
		if place = s.followAll(place, r.ones); place < 0 {
			return api.Value{}
		}
		return get(s.world.Objects[place])
	}
}

// getter returns what gives the value of an object under a name. It is also for the objects below the entity that has the member: their slots begin with those of the entity.
func (c *catalog) getter(x member) func(o api.Object) api.Value {
	switch x.what {
	case isFormula:
		return c.formula(x)
	case isOne:
		return func(o api.Object) api.Value { return reference(o.Ones[x.place]) }
	case isID:
		return func(o api.Object) api.Value { return number(o.ID) }
	case isTenant:
		return func(o api.Object) api.Value { return number(o.Tenant) }
	case isVersion:
		return func(o api.Object) api.Value { return number(o.Version) }
	case isGone:
		return func(o api.Object) api.Value { return o.Gone }
	}
	return func(o api.Object) api.Value { return o.Values[x.place] }
}

// formula returns what gives the value of a computed field for an object.
func (c *catalog) formula(x member) func(o api.Object) api.Value {
	members := c.entity(x.slot.Entity).members
	var made func(e api.Expr) func(o api.Object) api.Value
	made = func(e api.Expr) func(o api.Object) api.Value {
		switch e.Kind {
		case api.XValue:
			return func(api.Object) api.Value { return e.Value }
		case api.XColumn:
			return c.getter(members[e.Name])
		}
		return compose(e, mapped(e.Args, made))
	}
	return made(x.formula)
}

// compose returns the function of an XOp, XCase or XIn with the functions of its Args.
func compose[C ~func(F) api.Value, F any](e api.Expr, args []C) C {
	switch e.Kind {
	case api.XCase:
		return operate.Choice(args)
	case api.XIn:
		return operate.In(args)
	}
	return operate.Operation(e, args)
}

// judge makes rules of conditions with parameters.
type judge struct {
	*scene
	params []api.Value
}

// rule returns the rule of a part of a condition that is right.
func (j judge) rule(e api.Expr, at *spot) rule {
	switch e.Kind {
	case api.XValue:
		return func(*frame) api.Value { return e.Value }
	case api.XParam:
		return func(*frame) api.Value { return j.params[e.N] }
	case api.XColumn:
		return j.column(e, at)
	case api.XSome, api.XEvery, api.XMany:
		return j.multi(e, at)
	case api.XIs:
		return j.is(e, at)
	}
	return compose(e, mapped(e.Args, func(arg api.Expr) rule { return j.rule(arg, at) }))
}

// column returns the rule of an XColumn.
func (j judge) column(e api.Expr, at *spot) rule {
	look := j.look(j.routeOf(e, at))
	if at.of(e) != at {
		return func(f *frame) api.Value { return look(f.outer.place) }
	}
	return func(f *frame) api.Value { return look(f.place) }
}

// multi returns the rule of an XSome, XEvery or XMany.
func (j judge) multi(e api.Expr, at *spot) rule {
	r := j.routeOf(e, at)
	inner := &spot{j.entity(r.end.slot.To), at}
	conditions := mapped(e.Args, func(arg api.Expr) rule { return j.rule(arg, inner) })
	verdict := verdictOf(e.Kind)
	// What its condition calls up is this object, so that the value depends on the object alone.
	known := map[int]api.Value{}
	return func(f *frame) api.Value {
		v, ok := known[f.place]
		if !ok {
			v = verdict(j.objects(f.place, r), func(place int) bool {
				return !slices.ContainsFunc(conditions, func(c rule) bool { return !operate.IsTrue(c(&frame{place, f})) })
			})
			known[f.place] = v
		}
		return v
	}
}

// objects returns the places of the objects of a path to many.
func (s *scene) objects(place int, r route) []int {
	if place = s.followAll(place, r.ones); place < 0 {
		return nil
	}
	return s.many(place, r.end)
}

// verdictOf returns what an XSome, XEvery or XMany says of objects of which some hold.
func verdictOf(kind int) func(places []int, holds func(place int) bool) api.Value {
	switch kind {
	case api.XSome:
		return func(places []int, holds func(place int) bool) api.Value {
			return value.Bool(slices.ContainsFunc(places, holds))
		}
	case api.XEvery:
		return func(places []int, holds func(place int) bool) api.Value {
			return value.Bool(!slices.ContainsFunc(places, func(place int) bool { return !holds(place) }))
		}
	}
	return func(places []int, holds func(place int) bool) api.Value {
		count := 0
		for _, place := range places {
			if holds(place) {
				count++
			}
		}
		return number(count)
	}
}

// is returns the rule of an XIs.
func (j judge) is(e api.Expr, at *spot) rule {
	ones := j.routeOf(e, at).relations()
	return func(f *frame) api.Value {
		place := j.followAll(f.place, ones)
		return value.Bool(place >= 0 && j.entityAt(place).isOf(e.Name))
	}
}

// Holds returns the value of a condition for an object of a world.
func Holds(m api.Model, w api.World, o api.Ref, e api.Expr, params []api.Value) (api.Value, api.Errno) {
	s, place, err := objectIn(m, w, o)
	if err != api.OK {
		return api.Value{}, err
	}
	kinds, err := kindsOf(params)
	if err != api.OK {
		return api.Value{}, err
	}
	at := s.entityAt(place)
	if _, err := (checker{catalog: s.catalog, params: kinds}).kindOfWhole(e, at); err != api.OK {
		return api.Value{}, err
	}
	return judge{s, params}.rule(e, &spot{entity: at})(&frame{place: place}), api.OK
}
