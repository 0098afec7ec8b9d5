package session

import (
	"slices"

	"dumbwaiter/api"
	"dumbwaiter/value"
)

// Make makes an object.
func (s *Session) Make(entity string, tenant int) (int, api.Errno) {
	e := s.entities[entity]
	if e == nil {
		return 0, api.ErrName
	}
	if err := s.checkMade(e, tenant); err != api.OK {
		return 0, err
	}
	if e.root.Tenant && s.tenant != 0 {
		tenant = s.tenant
	}
	x := api.Object{Entity: entity, Tenant: tenant, Values: slices.Clone(e.initial), Ones: make([]int, len(e.ones))}
	o := &object{state: api.StateFree, now: x}
	h, err := s.handle(o)
	o.now.ID = -h
	return h, err
}

// checkMade checks whether the session can make an object of an entity for a tenant.
func (s *Session) checkMade(e *entity, tenant int) api.Errno {
	switch {
	case !e.root.Tenant && (s.tenant != 0 || tenant != 0):
		return api.ErrTenant
	case tenant != 0 && s.tenant != 0 && tenant != s.tenant:
		return api.ErrTenant
	case e.root.Tenant && s.tenant == 0 && (tenant < 1 || tenant > api.MaxInt):
		return api.ErrArg
	}
	return api.OK
}

// handle returns the handle of an object, which it gets if it has none.
func (s *Session) handle(o *object) (int, api.Errno) {
	if o.handle == 0 {
		if len(s.objects) >= api.MaxHandles {
			return 0, api.ErrLarge
		}
		s.objects = append(s.objects, o)
		o.handle = len(s.objects)
	}
	return o.handle, api.OK
}

// Save lets an object be written.
func (s *Session) Save(h int) api.Errno {
	o, err := s.usable(h)
	if err != api.OK {
		return err
	}
	if o.state == api.StateFree {
		o.state = api.StateNew
	}
	clear(s.lists)
	return api.OK
}

// Set gives a slot a value.
func (s *Session) Set(h int, slot string, v api.Value) api.Errno {
	o, err := s.writable(h)
	if err != api.OK {
		return err
	}
	e := s.entityOf(o)
	place := e.value(slot)
	if place < 0 {
		return api.ErrName
	}
	if err := value.Check(e.values[place].Kind, v); err != api.OK {
		return err
	}
	o.now.Values[place] = v
	clear(s.lists)
	return api.OK
}

// Point lets a RelOne refer to an object, or to nothing.
func (s *Session) Point(h int, relation string, to int) api.Errno {
	o, err := s.writable(h)
	if err != api.OK {
		return err
	}
	e := s.entityOf(o)
	place := e.one(relation)
	if place < 0 {
		return api.ErrName
	}
	id := 0
	if to != 0 {
		other, err := s.usable(to)
		if err == api.OK {
			err = s.checkEnd(o, e.ones[place], other)
		}
		if err != api.OK {
			return err
		}
		id = other.now.ID
	}
	o.now.Ones[place] = id
	clear(s.lists)
	return api.OK
}

// checkEnd checks whether an object can have another one by a relation.
func (s *Session) checkEnd(o *object, r api.Relation, other *object) api.Errno {
	e := s.entityOf(other)
	switch {
	case !e.isOf(r.To):
		return api.ErrType
	case e.root.Tenant && other.now.Tenant != o.now.Tenant:
		return api.ErrTenant
	}
	return api.OK
}

// Link makes an object one of a RelMany or RelPairs.
func (s *Session) Link(h int, relation string, to int) api.Errno {
	return s.bind(h, relation, to, true)
}

// Unlink takes an object away from a RelMany or RelPairs.
func (s *Session) Unlink(h int, relation string, to int) api.Errno {
	return s.bind(h, relation, to, false)
}

// bind links an object with another one, or unlinks it.
func (s *Session) bind(h int, relation string, to int, linked bool) api.Errno {
	o, err := s.writable(h)
	if err != api.OK {
		return err
	}
	x, there := s.entityOf(o).lists[relation]
	if !there {
		return api.ErrName
	}
	other, err := s.usable(to)
	switch {
	case err != api.OK:
		return err
	case !s.entityOf(other).isOf(x.To):
		return api.ErrType
	case x.Kind == api.RelMany:
		return s.bindBack(o, x.Back, other, linked)
	}
	if err := s.checkEnd(o, x.Relation, other); err != api.OK {
		return err
	}
	s.pairs[s.pairOf(x, o.now, other.now)] = linked
	clear(s.lists)
	return api.OK
}

// bindBack lets the other object refer to an object by a RelOne, or no longer, if it does.
func (s *Session) bindBack(o *object, back string, other *object, linked bool) api.Errno {
	e := s.entityOf(other)
	place := e.one(back)
	if err := s.checkEnd(other, e.ones[place], o); err != api.OK {
		return err
	}
	switch id := &other.now.Ones[place]; {
	case linked:
		*id = o.now.ID
	case *id == o.now.ID:
		*id = 0
	}
	clear(s.lists)
	return api.OK
}

// Remove removes an object.
func (s *Session) Remove(h int) api.Errno {
	o, err := s.writable(h)
	if err != api.OK {
		return err
	}
	if o.isMade() {
		s.unmake(o)
	} else {
		o.state = api.StateRemoved
	}
	clear(s.lists)
	return api.OK
}

// unmake puts an object that has not been flushed in StatePast.
func (s *Session) unmake(o *object) {
	id := o.now.ID
	o.end()
	for _, other := range s.objects {
		for i, to := range other.now.Ones {
			if to == id {
				other.now.Ones[i] = 0
			}
		}
	}
	for p := range s.pairs {
		if p.Left == id || p.Right == id {
			delete(s.pairs, p)
		}
	}
}

// Hold asks at the next flush that an object has not changed.
func (s *Session) Hold(h int) api.Errno {
	o, err := s.usable(h)
	if err != api.OK {
		return err
	}
	if o.isMade() {
		return api.ErrState
	}
	o.held = true
	return api.OK
}
