package query

import (
	"slices"

	"dumbwaiter/api"
	"dumbwaiter/schema"
)

// Seen returns the world that is seen.
func Seen(m api.Model, w api.World, tenant int, gone bool) (api.World, api.Errno) {
	if err := schema.CheckWorld(m, w); err != api.OK {
		return api.World{}, err
	}
	if tenant < 0 {
		return api.World{}, api.ErrArg
	}
	return seen(m, w, tenant, gone), api.OK
}

// seen returns the world that is seen of a right one.
func seen(m api.Model, w api.World, tenant int, gone bool) api.World {
	isSeen := func(other int) bool { return tenant == 0 || other == 0 || other == tenant }
	var part api.World
	for _, o := range w.Objects {
		if isSeen(o.Tenant) {
			o.Values, o.Ones = slices.Clone(o.Values), slices.Clone(o.Ones)
			part.Objects = append(part.Objects, o)
		}
	}
	for _, p := range w.Pairs {
		if isSeen(p.Tenant) {
			part.Pairs = append(part.Pairs, p)
		}
	}
	if !gone {
		// What refers to an object of a tenant is of the same one, so that this part is a right world, too.
		part, _ = schema.Living(m, part)
	}
	return part
}

// Related returns the objects of a relation that an object has.
func Related(m api.Model, w api.World, o api.Ref, relation string) ([]api.Ref, api.Errno) {
	s, place, err := objectIn(m, w, o)
	if err != api.OK {
		return nil, err
	}
	x := s.entityAt(place).members[relation]
	switch x.what {
	case isOne:
		if to := s.follow(place, x); to >= 0 {
			return []api.Ref{s.ref(to)}, api.OK
		}
		return nil, api.OK
	case isMany, isPairs:
		return mapped(s.many(place, x), s.ref), api.OK
	}
	return nil, api.ErrName
}

// Look returns the value of a path for an object of a world.
func Look(m api.Model, w api.World, o api.Ref, path string) (api.Value, api.Errno) {
	s, place, err := objectIn(m, w, o)
	if err != api.OK {
		return api.Value{}, err
	}
	r, err := s.toValue(s.entityAt(place), path)
	if err != api.OK {
		return api.Value{}, err
	}
	return s.look(r)(place), api.OK
}
