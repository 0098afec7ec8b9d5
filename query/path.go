package query

import (
	"strings"

	"dumbwaiter/api"
)

// route is a path that has been read.
type route struct {
	ones []member // the RelOnes ahead of its end
	at   *entity  // where it has arrived ahead of its end
	end  member
}

// relations returns the relations of a route.
func (r route) relations() []member {
	if r.end.isRelation() {
		return append(r.ones[:len(r.ones):len(r.ones)], r.end)
	}
	return r.ones
}

// advance reads the names of RelOnes at the beginning of a path, as long as something stands behind them, and then the end.
func (c *catalog) advance(e *entity, path string) route {
	r := route{at: e}
	for {
		name, rest, more := strings.Cut(path, ".")
		one := r.at.members[name]
		if !more || one.what != isOne {
			r.end = r.at.members[path]
			return r
		}
		r.ones = append(r.ones, one)
		r.at, path = c.entity(one.slot.To), rest
	}
}

// toValue reads a path to a value.
func (c *catalog) toValue(e *entity, path string) (route, api.Errno) {
	r := c.advance(e, path)
	switch {
	case len(r.ones) > api.MaxPath:
		return route{}, api.ErrLarge
	case r.end.what == isNothing, r.end.what == isMany, r.end.what == isPairs:
		return route{}, api.ErrName
	}
	return r, api.OK
}

// toOne reads a path to one.
func (c *catalog) toOne(e *entity, path string) (route, api.Errno) {
	r := c.advance(e, path)
	switch {
	case len(r.ones) > api.MaxPath:
		return route{}, api.ErrLarge
	case len(r.ones) == api.MaxPath, r.end.what != isOne:
		return route{}, api.ErrName
	}
	return r, api.OK
}

// toMany reads a path to many.
func (c *catalog) toMany(e *entity, path string) (route, api.Errno) {
	r := c.advance(e, path)
	switch {
	case len(r.ones) >= api.MaxPath:
		return route{}, api.ErrLarge
	case r.end.what != isMany && r.end.what != isPairs:
		return route{}, api.ErrName
	}
	return r, api.OK
}

// Path returns a slot for a path to a value.
func Path(m api.Model, entity, path string) (api.Slot, api.Errno) {
	c, e, err := lookup(m, entity)
	if err != api.OK {
		return api.Slot{}, err
	}
	r, err := c.toValue(e, path)
	if err != api.OK {
		return api.Slot{}, err
	}
	slot := r.end.slot
	slot.Name = path
	for _, one := range r.ones {
		slot.Null = slot.Null || one.slot.Null
	}
	return slot, api.OK
}

// Many returns the entity to which a path to many objects leads.
func Many(m api.Model, entity, path string) (string, api.Errno) {
	c, e, err := lookup(m, entity)
	if err != api.OK {
		return "", err
	}
	r, err := c.toMany(e, path)
	if err != api.OK {
		return "", err
	}
	return r.end.relation.To, api.OK
}
