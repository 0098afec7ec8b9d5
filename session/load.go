package session

import (
	"slices"

	"dumbwaiter/api"
)

// isSeen reports whether the session sees an object of the tables.
func (s *Session) isSeen(x api.Object) bool {
	return x.Gone.Kind == api.Null && (s.tenant == 0 || x.Tenant == 0 || x.Tenant == s.tenant)
}

// adopt keeps an object in mind as it stands in the tables.
func (s *Session) adopt(x api.Object) {
	n := s.nameOf(x)
	if !s.isSeen(x) {
		s.loaded[n] = nil
		return
	}
	if s.loaded[n] == nil {
		s.loaded[n] = &object{}
	}
	s.loaded[n].be(x)
}

// isLoaded reports whether an object was read, even if it is not there.
func (s *Session) isLoaded(n name) bool {
	_, known := s.loaded[n]
	return known || n.family == ""
}

// fetch loads the objects with some names that are not loaded, and reports whether there were any.
func (s *Session) fetch(l []name) (bool, api.Errno) {
	var missing []name
	asked := map[name]bool{}
	for _, n := range l {
		if !asked[n] && !s.isLoaded(n) {
			asked[n] = true
			missing = append(missing, n)
		}
	}
	if len(missing) == 0 {
		return false, api.OK
	}
	if err := s.begin(); err != api.OK {
		return false, err
	}
	for _, n := range missing {
		s.loaded[n] = nil
	}
	for _, x := range s.tables.objects(missing) {
		s.adopt(x)
	}
	return true, api.OK
}

// fetchOnes loads the objects to which others refer by a RelOne, and reports whether one of them was not loaded.
func (s *Session) fetchOnes(l []*object, relation string) (bool, api.Errno) {
	var names []name
	for _, o := range l {
		if place := s.entityOf(o).one(relation); place >= 0 && o.now.Ones[place] != 0 {
			names = append(names, s.target(o.now, place))
		}
	}
	return s.fetch(names)
}

// fetchLists loads the lists of objects by a relation that are not kept, with the objects in them, and reports whether there were any.
func (s *Session) fetchLists(l []*object, relation string) (bool, api.Errno) {
	var x list
	var owners []name
	for _, o := range l {
		own, there := s.entityOf(o).lists[relation]
		n := s.nameOf(o.now)
		if _, kept := s.lists[listName{n, relation}]; there && !kept {
			x, owners = own, append(owners, n)
		}
	}
	if len(owners) == 0 {
		return false, api.OK
	}
	if err := s.begin(); err != api.OK {
		return false, err
	}
	related := s.tables.related(x, owners)
	names := slices.Clone(owners)
	for _, owner := range owners {
		names = append(names, related[owner]...)
	}
	stored := s.stored(names)
	for _, owner := range owners {
		var l []api.Object
		// Another session can have removed it.
		if o, there := stored[owner]; there && s.isSeen(o) {
			l = s.listOf(x, related[owner], stored)
		}
		s.lists[listName{owner, relation}] = l
	}
	return true, api.OK
}

// stored returns the objects of the tables with some names.
func (s *Session) stored(names []name) map[name]api.Object {
	l := map[name]api.Object{}
	known := map[name]bool{}
	names = slices.DeleteFunc(names, func(n name) bool {
		again := known[n]
		known[n] = true
		return again
	})
	for _, x := range s.tables.objects(names) {
		l[s.nameOf(x)] = x
	}
	return l
}

// listOf returns those objects of a list that the relation can have and the session sees, sorted. They are loaded then.
func (s *Session) listOf(x list, names []name, stored map[name]api.Object) []api.Object {
	slices.SortFunc(names, compareNames)
	var l []api.Object
	for _, n := range slices.Compact(names) {
		o, there := stored[n]
		if !there || !s.isSeen(o) || !s.entities[o.Entity].isOf(x.To) {
			continue
		}
		l = append(l, o)
		if !s.isLoaded(n) {
			s.adopt(o)
		}
	}
	return l
}

// mates returns the objects for which something is loaded if it is for an object.
func (s *Session) mates(o *object) []*object {
	l := []*object{o}
	for _, other := range o.mates {
		if other != o && other.isThere() {
			l = append(l, other)
		}
	}
	return l
}

// count counts a query, if one was made.
func (s *Session) count(made bool) {
	if made {
		s.queries++
	}
}

// follow returns the object to which another one refers by the RelOne at a place; nil if there is none.
func (s *Session) follow(o *object, one int) (*object, api.Errno) {
	l := []*object{o}
	// What is missing for others alone does not begin a transaction: it would see another moment than with other ways to load.
	if s.open || o.now.Ones[one] != 0 && !s.isLoaded(s.target(o.now, one)) {
		l = s.mates(o)
	}
	made, err := s.fetchOnes(l, s.entityOf(o).ones[one].Name)
	if err != api.OK {
		return nil, err
	}
	s.count(made)
	if other := s.referred(o, one); other.isThere() {
		return other, api.OK
	}
	return nil, api.OK
}

// give returns the handles of objects of the tables. None of them has changed since the last flush, so that all are as in the tables then.
func (s *Session) give(l []api.Object) ([]int, api.Errno) {
	fresh := 0
	for _, x := range l {
		if o := s.loaded[s.nameOf(x)]; o == nil || o.handle == 0 {
			fresh++
		}
	}
	if len(s.objects)+fresh > api.MaxHandles {
		return nil, api.ErrLarge
	}
	var handles []int
	for _, x := range l {
		s.adopt(x)
		h, _ := s.handle(s.loaded[s.nameOf(x)])
		handles = append(handles, h)
	}
	return handles, api.OK
}
