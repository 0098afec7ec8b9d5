package session_test

import (
	"maps"
	"slices"

	"dumbwaiter/api"
	"dumbwaiter/schema"
	"dumbwaiter/value"
)

// isAlive reports whether a thing is in StateNew, StateClean or StateChanged, or is in the tables and has no handle.
func (x *thing) isAlive() bool {
	return x.state == api.StateNew || x.state == api.StateClean || x.state == 0
}

// reaches reports whether a thing reaches another one by a relation with Cascade.
func (n *naive) reaches(x, y *thing) bool {
	for i, r := range n.onesOf(x.entity) {
		if r.Cascade && x.ones[i] == y {
			return true
		}
	}
	for name, r := range n.relationsOf[x.entity] {
		switch {
		case !r.Cascade || !n.isOf(y, r.To):
		case r.Kind == api.RelMany:
			if y.ones[onePlace(n.onesOf(y.entity), r.Back)] == x {
				return true
			}
		case r.Kind == api.RelPairs:
			for _, p := range n.same(n.coupleOf(x, name, y)) {
				if n.linked[p] {
					return true
				}
			}
		}
	}
	return false
}

// stepOne saves what is reached.
func (n *naive) stepOne() {
	for more := true; more; {
		more = false
		for _, y := range n.things {
			for _, x := range n.things {
				if y.state == api.StateFree && x.isAlive() && n.reaches(x, y) {
					y.state, more = api.StateNew, true
				}
			}
		}
	}
}

// hasDifferentPair reports whether a pair is to be added or removed.
func (n *naive) hasDifferentPair() bool {
	for p, add := range n.linked {
		if n.isPair(p) != add {
			return true
		}
	}
	return false
}

// isDirty reports whether there is something to be written.
func (n *naive) isDirty() bool {
	c := n.copy()
	c.stepOne()
	return slices.ContainsFunc(c.things, func(x *thing) bool {
		return x.state == api.StateNew || x.state == api.StateRemoved || x.isChanged()
	}) || c.hasDifferentPair()
}

// copy copies a session, with all that is in it.
func (n *naive) copy() *naive {
	c := *n
	twins := map[*thing]*thing{nil: nil}
	var twin func(x *thing) *thing
	twinsOf := func(l []*thing) []*thing {
		var out []*thing
		for _, x := range l {
			out = append(out, twin(x))
		}
		return out
	}
	twin = func(x *thing) *thing {
		if y, known := twins[x]; known {
			return y
		}
		y := new(thing)
		twins[x] = y
		*y = *x
		y.values, y.ones, y.find = slices.Clone(x.values), twinsOf(x.ones), twinsOf(x.find)
		if x.stored != nil {
			y.stored = &row0{x.stored.version, x.stored.gone, slices.Clone(x.stored.values), twinsOf(x.stored.ones)}
		}
		return y
	}
	c.things, c.handles = twinsOf(n.things), twinsOf(n.handles)
	couples := func(l map[couple]bool) map[couple]bool {
		out := map[couple]bool{}
		for p, v := range l {
			out[couple{p.entity, p.relation, twin(p.left), twin(p.right)}] = v
		}
		return out
	}
	c.pairs, c.linked, c.loaded = couples(n.pairs), couples(n.linked), maps.Clone(n.loaded)
	c.lists = map[keptList]bool{}
	for k := range n.lists {
		c.lists[keptList{twin(k.owner), k.relation}] = true
	}
	return &c
}

// flush writes everything. What fails is done with a copy, so that nothing has changed.
func (n *naive) flush() api.Errno {
	asks := func(x *thing) bool { return x.held || x.isChanged() || x.state == api.StateRemoved }
	n.open = n.open || slices.ContainsFunc(n.handles, asks)
	c := n.copy()
	if c.stepOne(); c.lacks() {
		return api.ErrRef
	}
	n.askPairs()
	n.open = n.open || n.isDirty()
	if err := n.copy().flushed(); err != api.OK {
		return err
	}
	return n.flushed()
}

// lacks reports whether something refers to an object in StateFree.
func (n *naive) lacks() bool {
	for _, x := range n.things {
		if x.isAlive() && slices.ContainsFunc(x.ones, func(to *thing) bool { return to != nil && to.state == api.StateFree }) {
			return true
		}
	}
	for p, add := range n.linked {
		if add && (p.left.state == api.StateFree || p.right.state == api.StateFree) {
			return true
		}
	}
	return false
}

// askPairs begins a transaction if there are pairs of which must be known whether they are there.
func (n *naive) askPairs() {
	for p := range n.linked {
		n.open = n.open || p.left.stored != nil && p.right.stored != nil
	}
}

func (n *naive) flushed() api.Errno {
	n.stepOne()
	whole := map[*thing]bool{}
	if err := n.stepThree(whole); err != api.OK {
		return err
	}
	n.stepFour(whole)
	if err := n.stepFive(whole); err != api.OK {
		return err
	}
	n.stepSix(whole)
	return n.stepSeven(whole)
}

// stepThree lets objects go.
func (n *naive) stepThree(whole map[*thing]bool) api.Errno {
	for _, x := range n.things {
		if x.state != api.StateRemoved {
			continue
		}
		if n.root(x.entity).Soft {
			x.gone = moment(n.now)
		} else {
			whole[x] = true
		}
	}
	refers := func(visit func(x *thing, i int, r api.Relation)) {
		for _, x := range n.things {
			for i, r := range n.onesOf(x.entity) {
				if !whole[x] && x.state != api.StateFree && whole[x.ones[i]] {
					visit(x, i, r)
				}
			}
		}
	}
	for size := -1; size != len(whole); {
		size = len(whole)
		refers(func(x *thing, _ int, r api.Relation) {
			if r.OnDelete == api.Cascade {
				whole[x] = true
			}
		})
	}
	err := api.OK
	refers(func(x *thing, i int, r api.Relation) {
		if r.OnDelete == api.Refuse {
			err = api.ErrRef
		}
		x.ones[i] = nil
	})
	return err
}

// stepFour gives ids to new objects.
func (n *naive) stepFour(whole map[*thing]bool) {
	for _, x := range n.handles {
		if x.state != api.StateNew || whole[x] {
			continue
		}
		greatest := 0
		for _, y := range n.things {
			if !whole[y] && n.nameFor(y.entity, y.tenant, 0) == n.nameFor(x.entity, x.tenant, 0) {
				greatest = max(greatest, y.id)
			}
		}
		x.id = greatest + 1
	}
}

// isWritten reports whether a thing is new, or another one than in the tables.
func (x *thing) isWritten() bool {
	if x.stored == nil {
		return x.state == api.StateNew
	}
	return x.gone != x.stored.gone || !slices.Equal(x.values, x.stored.values) || !slices.Equal(x.ones, x.stored.ones)
}

// stepFive runs the hooks.
func (n *naive) stepFive(whole map[*thing]bool) api.Errno {
	n.sorted(n.things)
	for _, x := range n.things {
		if x.isWritten() && !whole[x] && x.state != api.StateRemoved {
			if err := n.runHooks(x, api.HookSave); err != api.OK {
				return err
			}
		}
	}
	for _, x := range n.things {
		if x.state == api.StateRemoved {
			if err := n.runHooks(x, api.HookRemove); err != api.OK {
				return err
			}
		}
	}
	return api.OK
}

func (n *naive) runHooks(x *thing, when int) api.Errno {
	for _, h := range n.hooks {
		if h.When != when || !n.isOf(x, h.Entity) {
			continue
		}
		eval := func(e api.Expr) api.Value {
			var columns []api.Cell
			var values []api.Value
			add := func(name string, kind int, v api.Value) {
				columns, values = append(columns, api.Cell{Name: name, Kind: kind}), append(values, v)
			}
			for i, s := range n.valuesOf(x.entity) {
				add(s.Name, s.Kind, x.values[i])
			}
			add("id", api.Int, integer(x.id))
			if n.root(x.entity).Version {
				add("version", api.Int, integer(x.version))
			}
			if n.root(x.entity).Tenant {
				add("tenant", api.Int, integer(x.tenant))
			}
			v, _ := value.Eval(e, columns, values, nil)
			return v
		}
		if len(h.Set) == 1 {
			v := eval(h.Set[0])
			i := slices.IndexFunc(n.valuesOf(x.entity), func(s api.Slot) bool { return s.Name == h.Slot })
			if v.Kind != n.valuesOf(x.entity)[i].Kind {
				v = null
			}
			x.values[i] = v
		}
		if len(h.Refuse) == 1 && eval(h.Refuse[0]) == boolean(1) {
			return api.ErrRefused
		}
	}
	return api.OK
}

// stepSix counts the versions.
func (n *naive) stepSix(whole map[*thing]bool) {
	for _, x := range n.things {
		if n.root(x.entity).Version && x.isWritten() {
			x.version++
		}
	}
}

// stepSeven makes the result the tables, and brings the session up to it.
func (n *naive) stepSeven(whole map[*thing]bool) api.Errno {
	n.writePairs(whole)
	n.things = slices.DeleteFunc(n.things, func(x *thing) bool { return whole[x] })
	for x := range whole {
		// An id can be that of a new object, too.
		delete(n.loaded, n.name(x))
	}
	for _, x := range n.things {
		n.write(x)
	}
	if err := schema.CheckWorld(n.m, n.world()); err != api.OK {
		return err
	}
	for _, x := range n.things {
		for i, to := range x.ones {
			if x.state == api.StateFree && to != nil && (whole[to] || to.state == api.StateRemoved) {
				x.ones[i] = nil
			}
		}
	}
	for x := range whole {
		x.state = api.StatePast
	}
	for _, x := range slices.Clone(n.things) {
		if x.state == api.StateRemoved {
			delete(n.loaded, n.name(x))
			n.leave(x)
		}
	}
	for _, x := range n.handles {
		x.held = false
	}
	return api.OK
}

// writePairs adds and removes pairs.
func (n *naive) writePairs(whole map[*thing]bool) {
	for p, add := range n.linked {
		for _, q := range n.same(p) {
			delete(n.pairs, q)
		}
		if add {
			n.pairs[p] = true
		}
	}
	maps.DeleteFunc(n.pairs, func(p couple, _ bool) bool { return whole[p.left] || whole[p.right] })
	n.linked = map[couple]bool{}
}

// write makes a thing that differs from the tables what stands there.
func (n *naive) write(x *thing) {
	if x.state == api.StateFree || !x.isWritten() {
		return
	}
	for i, to := range x.ones {
		if to != nil && to.state == api.StateFree {
			x.ones[i] = nil // x is removed: otherwise there would have been an error
		}
	}
	x.store()
	if x.state != api.StateRemoved {
		n.loaded[n.name(x)] = true
	}
	if x.state == api.StateNew {
		x.state = api.StateClean
	}
}

// leave puts a thing that is gone in StatePast: what stands in the tables is another object, if it is read again.
func (n *naive) leave(x *thing) {
	again := *x
	again.handle, again.state, again.find = 0, 0, nil
	other := func(y *thing) *thing {
		if y == x {
			return &again
		}
		return y
	}
	for i, y := range n.things {
		n.things[i] = other(y)
		for _, l := range [][]*thing{y.ones, storedOnes(y), again.ones, storedOnes(&again)} {
			for k, to := range l {
				l[k] = other(to)
			}
		}
	}
	pairs := map[couple]bool{}
	for p, there := range n.pairs {
		pairs[couple{p.entity, p.relation, other(p.left), other(p.right)}] = there
	}
	n.pairs = pairs
	x.state = api.StatePast
}

func storedOnes(x *thing) []*thing {
	if x.stored == nil {
		return nil
	}
	return x.stored.ones
}

func (n *naive) commit() api.Errno {
	if err := n.flush(); err != api.OK {
		return err
	}
	n.kept, n.open = n.world(), false
	n.lists = map[keptList]bool{}
	for _, x := range n.things {
		if x.handle == 0 {
			delete(n.loaded, n.name(x))
		}
	}
	// What was not there, or not seen, has no handle.
	for name := range n.loaded {
		if n.at(name) == nil {
			delete(n.loaded, name)
		}
	}
	return api.OK
}
