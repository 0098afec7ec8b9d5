package session

import (
	"slices"
	"strings"

	"dumbwaiter/api"
	"dumbwaiter/query"
	"dumbwaiter/value"
)

// Get returns the object of an entity with an id.
func (s *Session) Get(entity string, id int) (int, api.Errno) {
	e := s.entities[entity]
	switch {
	case e == nil:
		return 0, api.ErrName
	case e.root.Tenant && s.tenant == 0:
		return 0, api.ErrTenant
	}
	n := name{family: e.root.Name, id: id}
	if e.root.Tenant {
		n.tenant = s.tenant
	}
	made, err := s.fetch([]name{n})
	if err != api.OK {
		return 0, err
	}
	s.count(made)
	o := s.loaded[n]
	if !o.isThere() || !s.entityOf(o).isOf(entity) {
		return 0, api.ErrNone
	}
	return s.handle(o)
}

// Find returns the objects of a find.
func (s *Session) Find(f api.Find, params []api.Value) ([]int, api.Errno) {
	if err := s.checkFind(f, params); err != api.OK {
		return nil, err
	}
	if _, err := s.flush(); err != api.OK {
		return nil, err
	}
	if s.tenant != 0 {
		f.Tenant = s.tenant
	}
	f.Where = bound(f.Where, params)
	if err := s.begin(); err != api.OK {
		return nil, err
	}
	handles, err := s.give(s.tables.objects(s.tables.find(f)))
	if err != api.OK {
		return nil, err
	}
	s.count(true)
	var found []*object
	for _, h := range handles {
		found = append(found, s.objects[h-1])
	}
	switch s.way {
	case api.LoadBatch:
		for _, o := range found {
			o.mates = found
		}
	case api.LoadEager:
		err = s.include(f, found)
	}
	if err != api.OK {
		return nil, err
	}
	return handles, api.OK
}

// checkFind returns the errors of Find ahead of those of the flush.
func (s *Session) checkFind(f api.Find, params []api.Value) api.Errno {
	// A world without objects does: what is asked first is what matters.
	if _, err := query.Objects(s.model, api.World{}, f, params); err != api.OK {
		return err
	}
	switch {
	case s.tenant != 0 && f.Tenant != 0 && f.Tenant != s.tenant:
		return api.ErrTenant
	case f.Gone:
		return api.ErrForm
	}
	return api.OK
}

// bound returns conditions in which values stand for the parameters: null has no kind that a parameter could have.
func bound(l []api.Expr, params []api.Value) []api.Expr {
	l = slices.Clone(l)
	for i, e := range l {
		if e.Kind == api.XParam {
			l[i] = api.Expr{Kind: api.XValue, Value: params[e.N]}
		}
		l[i].Args = bound(e.Args, params)
	}
	return l
}

// include loads what the inclusion of a find tells.
func (s *Session) include(f api.Find, found []*object) api.Errno {
	steps, _ := query.Steps(s.model, f.Entity, f.Include)
	reached := make([][]*object, len(steps))
	for i, step := range steps {
		from := found
		if step.From >= 0 {
			from = reached[step.From]
		}
		to, err := s.reach(from, step)
		if err != api.OK {
			return err
		}
		s.count(true)
		reached[i] = to
	}
	return api.OK
}

// reach loads what objects have by the relation of a step, and returns the objects, each once.
func (s *Session) reach(from []*object, step api.Step) ([]*object, api.Errno) {
	var l []*object
	known := map[*object]bool{}
	add := func(o *object) {
		if o.isThere() && !known[o] {
			known[o] = true
			l = append(l, o)
		}
	}
	if place := s.entities[step.Entity].one(step.Relation); place >= 0 {
		_, err := s.fetchOnes(from, step.Relation)
		for _, o := range from {
			add(s.referred(o, place))
		}
		return l, err
	}
	_, err := s.fetchLists(from, step.Relation)
	for _, o := range from {
		for _, x := range s.lists[listName{s.nameOf(o.now), step.Relation}] {
			add(s.loaded[s.nameOf(x)])
		}
	}
	return l, err
}

// Value returns the value of a path.
func (s *Session) Value(h int, path string) (api.Value, api.Errno) {
	o, err := s.given(h)
	if err != api.OK {
		return api.Value{}, err
	}
	if _, err := query.Path(s.model, o.now.Entity, path); err != api.OK {
		return api.Value{}, err
	}
	for {
		first, rest, more := strings.Cut(path, ".")
		place := s.entityOf(o).one(first)
		if place < 0 {
			return s.valueOf(o, path), api.OK
		}
		o, err = s.follow(o, place)
		if err != api.OK || o == nil {
			return api.Value{}, err
		}
		path = rest
		if !more {
			path = "id"
		}
	}
}

// valueOf returns what an object has under a name that is not that of a relation.
func (s *Session) valueOf(o *object, name string) api.Value {
	e := s.entityOf(o)
	if place := e.value(name); place >= 0 {
		return o.now.Values[place]
	}
	if formula, there := e.formulas[name]; there {
		v, _ := value.Eval(formula, e.values, o.now.Values, nil)
		return v
	}
	switch name {
	case "tenant":
		return number(o.now.Tenant)
	case "gone":
		return o.now.Gone
	case "version":
		return known(o.now.Version)
	}
	return known(o.now.ID)
}

// number returns an Int.
func number(n int) api.Value { return api.Value{Kind: api.Int, N: n} }

// known returns an id or a version: null if there is none yet.
func known(n int) api.Value {
	if n < 1 {
		return api.Value{}
	}
	return number(n)
}

// One returns the object to which a RelOne refers.
func (s *Session) One(h int, relation string) (int, api.Errno) {
	o, err := s.given(h)
	if err != api.OK {
		return 0, err
	}
	place := s.entityOf(o).one(relation)
	if place < 0 {
		return 0, api.ErrName
	}
	other, err := s.follow(o, place)
	if err != api.OK || other == nil {
		return 0, err
	}
	return s.handle(other)
}

// All returns the objects of a RelMany or RelPairs.
func (s *Session) All(h int, relation string) ([]int, api.Errno) {
	o, err := s.given(h)
	if err != api.OK {
		return nil, err
	}
	if _, there := s.entityOf(o).lists[relation]; !there {
		return nil, api.ErrName
	}
	if o.state == api.StateFree || o.state == api.StateRemoved {
		return nil, api.ErrState
	}
	if err := s.flushNeeded(); err != api.OK {
		return nil, err
	}
	if o.state == api.StatePast {
		return nil, api.ErrState
	}
	made, err := s.fetchLists(s.mates(o), relation)
	if err != api.OK {
		return nil, err
	}
	s.count(made)
	return s.give(s.lists[listName{s.nameOf(o.now), relation}])
}
