package session

import (
	"slices"

	"dumbwaiter/api"
)

// flush writes everything, and reports whether there was something to be written.
func (s *Session) flush() (bool, api.Errno) {
	if err := s.askStale(); err != api.OK {
		return false, err
	}
	saved := s.savedToo()
	if s.lacksSaved(saved) {
		return false, api.ErrRef
	}
	wanted, err := s.isWanted(saved)
	if err != api.OK {
		return false, err
	}
	if wanted {
		if err := s.writeAll(saved); err != api.OK {
			return false, err
		}
	}
	clear(s.pairs)
	for _, o := range s.objects {
		o.held = false
	}
	return wanted, api.OK
}

// writeAll writes what is to be written.
func (s *Session) writeAll(saved map[*object]bool) api.Errno {
	if err := s.begin(); err != api.OK {
		return err
	}
	f := &flush{Session: s, saved: saved, places: map[name]*item{}, ids: map[int]int{}}
	if err := f.write(); err != api.OK {
		return err
	}
	f.settle()
	return api.OK
}

// flushNeeded flushes if there is something to be written.
func (s *Session) flushNeeded() api.Errno {
	wanted, err := s.isWanted(s.savedToo())
	if err == api.OK && wanted {
		_, err = s.flush()
	}
	return err
}

// isWanted reports whether there is something to be written, where some objects in StateFree are saved, too.
func (s *Session) isWanted(saved map[*object]bool) (bool, api.Errno) {
	wanted := len(saved) > 0 || slices.ContainsFunc(s.objects, func(o *object) bool {
		return o.state == api.StateNew || o.state == api.StateRemoved || o.isChanged()
	})
	for p, linked := range s.pairs {
		if p.Left < 0 || p.Right < 0 {
			wanted = wanted || linked // it is not there
			continue
		}
		if err := s.begin(); err != api.OK {
			return false, err
		}
		// Also a pair that stays as it is must be asked: otherwise what another session does with it would not be noticed.
		if s.tables.askPair(p) != linked {
			wanted = true
		}
	}
	return wanted, api.OK
}

// askStale checks that objects that are written or held have not changed since they were loaded.
func (s *Session) askStale() api.Errno {
	for _, o := range s.objects {
		if !o.held && !o.isChanged() && o.state != api.StateRemoved {
			continue
		}
		if err := s.begin(); err != api.OK {
			return err
		}
		x, there := s.tables.ask(s.nameOf(o.was))
		if !there || x.Gone.Kind != api.Null || x.Version != o.was.Version || x.Entity != o.was.Entity {
			return api.ErrStale
		}
	}
	return api.OK
}

// edges lead from objects to those that are saved with them.
type edges map[*object][]*object

// savedToo returns the objects in StateFree that others reach by relations with Cascade.
func (s *Session) savedToo() map[*object]bool {
	next := s.cascades()
	saved := map[*object]bool{}
	var work []*object
	for _, o := range s.objects {
		if o.state == api.StateNew || o.state == api.StateClean {
			work = append(work, o)
		}
	}
	for len(work) > 0 {
		o := work[len(work)-1]
		work = work[:len(work)-1]
		for _, to := range next[o] {
			if to.state == api.StateFree && !saved[to] {
				saved[to] = true
				work = append(work, to)
			}
		}
	}
	return saved
}

// cascades returns which objects are saved with others.
func (s *Session) cascades() edges {
	next := edges{}
	add := func(cascade bool, from, to *object) {
		if cascade {
			next[from] = append(next[from], to)
		}
	}
	for _, o := range s.objects {
		if !o.isMade() && !o.isChanged() {
			continue // it neither refers to an object in StateFree nor is it one
		}
		for place, r := range s.entityOf(o).ones {
			to := s.referred(o, place)
			if !to.isThere() {
				continue
			}
			add(r.Cascade, o, to)
			for _, x := range s.entityOf(to).lists {
				add(x.Kind == api.RelMany && x.Back == r.Name && x.Cascade && s.entityOf(o).isOf(x.To), to, o)
			}
		}
	}
	for p, linked := range s.pairs {
		if !linked {
			continue
		}
		l, r := s.ends(p)
		left, right := s.at(l), s.at(r)
		x := s.entities[p.Entity].lists[p.Relation]
		add(x.Cascade, left, right)
		if x.Back != "" {
			add(s.entities[x.To].lists[x.Back].Cascade, right, left)
		}
	}
	return next
}

// lacksSaved reports whether something refers to an object in StateFree that is not saved.
func (s *Session) lacksSaved(saved map[*object]bool) bool {
	isFree := func(o *object) bool { return o != nil && o.state == api.StateFree && !saved[o] }
	for _, o := range s.objects {
		if o.state != api.StateNew && !o.isChanged() && !saved[o] {
			continue
		}
		for place := range o.now.Ones {
			if isFree(s.referred(o, place)) {
				return true
			}
		}
	}
	for p, linked := range s.pairs {
		left, right := s.ends(p)
		if linked && (isFree(s.at(left)) || isFree(s.at(right))) {
			return true
		}
	}
	return false
}
