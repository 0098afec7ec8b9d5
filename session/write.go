package session

import (
	"cmp"
	"slices"

	"dumbwaiter/api"
	"dumbwaiter/clone"
)

// flush is what a flush makes of the world of the tables.
type flush struct {
	*Session
	saved  map[*object]bool // the objects in StateFree that are saved, too
	items  []*item          // the objects of the world, and new ones
	places map[name]*item
	ids    map[int]int // of new objects: by minus their handles
}

// item is an object on its way through a flush.
type item struct {
	was, now api.Object // in the tables; what it becomes
	of       *object    // of the session, if it has loaded it
	isNew    bool
	removed  bool // it is in StateRemoved
	whole    bool // it is removed whole
	own      bool // the memory of now belongs to the flush
}

// take makes the memory of what an object becomes that of the flush.
func (x *item) take() {
	if !x.own {
		x.now, x.own = clone.Object(x.now), true
	}
}

// one gives an object another reference.
func (x *item) one(place, id int) {
	x.take()
	x.now.Ones[place] = id
}

// set gives an object another value.
func (x *item) set(place int, v api.Value) {
	x.take()
	x.now.Values[place] = v
}

// differs reports whether an object is new or another one than in the tables.
func (x *item) differs() bool {
	return x.isNew || x.now.Gone != x.was.Gone || !slices.Equal(x.now.Values, x.was.Values) || !slices.Equal(x.now.Ones, x.was.Ones)
}

// goes reports whether an object is removed, whole or not.
func (x *item) goes() bool { return x.whole || x.removed }

// write makes the world behind the flush what stands in the tables.
func (f *flush) write() api.Errno {
	w, err := f.tables.world()
	if err != api.OK {
		return err
	}
	f.add(w)
	if err := f.remove(); err != api.OK {
		return err
	}
	f.number()
	if err := f.runHooks(); err != api.OK {
		return err
	}
	var next api.World
	for _, x := range f.items {
		f.setVersion(x)
		if !x.whole {
			next.Objects = append(next.Objects, x.now)
		}
	}
	next.Pairs = f.pairsBehind(w.Pairs)
	return f.tables.write(next)
}

// add adds the objects of the world, as the session has them, and new ones.
func (f *flush) add(w api.World) {
	for _, o := range w.Objects {
		x := &item{was: o, now: o, of: f.loaded[f.nameOf(o)]}
		if x.of != nil && (x.of.state == api.StateRemoved || x.of.isChanged()) {
			root := &f.entities[o.Entity].root
			x.now, x.own = x.of.merged(o, root.Version), true
			x.removed = x.of.state == api.StateRemoved
			x.whole = x.removed && !root.Soft
			if x.removed && root.Soft {
				x.now.Gone = f.moment
			}
		}
		f.addItem(f.nameOf(o), x)
	}
	for _, o := range f.objects {
		if o.state == api.StateNew || f.saved[o] {
			f.addItem(f.nameOf(o.now), &item{now: clone.Object(o.now), of: o, isNew: true, own: true})
		}
	}
}

func (f *flush) addItem(n name, x *item) {
	f.items = append(f.items, x)
	f.places[n] = x
}

// number gives new objects their ids, and puts all in the order of the world.
func (f *flush) number() {
	type space struct {
		family string
		tenant int
	}
	spaceOf := func(x *item) space { return space{f.entities[x.now.Entity].root.Name, x.now.Tenant} }
	greatest := map[space]int{}
	for _, x := range f.items {
		switch at := spaceOf(x); {
		case x.whole:
		case x.isNew:
			greatest[at]++
			f.ids[x.now.ID] = greatest[at]
			x.now.ID = greatest[at]
		default:
			greatest[at] = max(greatest[at], x.now.ID)
		}
	}
	for _, x := range f.items {
		for place, id := range x.now.Ones {
			if id < 0 {
				x.one(place, f.ids[id]) // one of an object that goes can be in StateFree still
			}
		}
	}
	slices.SortStableFunc(f.items, func(a, b *item) int {
		return cmp.Or(cmp.Compare(f.entities[a.now.Entity].place, f.entities[b.now.Entity].place), cmp.Compare(a.now.Tenant, b.now.Tenant), cmp.Compare(a.now.ID, b.now.ID))
	})
}

// setVersion gives an object the version that it has behind the flush.
func (f *flush) setVersion(x *item) {
	switch {
	case !f.entities[x.now.Entity].root.Version:
	case x.isNew:
		x.now.Version = 1
	case x.differs():
		x.now.Version = x.was.Version + 1
	}
}

// pairsBehind returns the pairs behind the flush.
func (f *flush) pairsBehind(before []api.PairOf) []api.PairOf {
	isWhole := func(n name) bool { return f.places[n] != nil && f.places[n].whole }
	set := map[api.PairOf]bool{}
	for _, p := range before {
		set[p] = true
	}
	for p, linked := range f.pairs {
		set[p] = linked
	}
	var l []api.PairOf
	for p, there := range set {
		left, right := f.ends(p)
		if there && !isWhole(left) && !isWhole(right) {
			l = append(l, f.ordered(f.numbered(p)))
		}
	}
	slices.SortFunc(l, comparePairs)
	return l
}

// numbered returns a pair with the ids that new objects of it have got.
func (f *flush) numbered(p api.PairOf) api.PairOf {
	for _, id := range []*int{&p.Left, &p.Right} {
		if *id < 0 {
			*id = f.ids[*id]
		}
	}
	return p
}

// comparePairs compares pairs by their order in a world.
func comparePairs(a, b api.PairOf) int {
	return cmp.Or(
		cmp.Compare(a.Entity, b.Entity), cmp.Compare(a.Relation, b.Relation),
		cmp.Compare(a.Tenant, b.Tenant), cmp.Compare(a.Left, b.Left), cmp.Compare(a.Right, b.Right),
	)
}

// settle brings the session up to what was written.
func (f *flush) settle() {
	// An id can be that of an object that goes, and of a new one: so first all objects go.
	gone := map[name]bool{}
	for n, x := range f.places {
		if !x.goes() {
			continue
		}
		gone[n] = true
		if x.of != nil {
			x.of.end()
		}
		delete(f.loaded, n)
	}
	for _, x := range f.items {
		switch {
		case x.goes():
		case x.isNew:
			n := f.nameOf(x.now)
			if other := f.loaded[n]; other != nil {
				other.end() // another session has removed it: its id was free
			}
			f.loaded[n] = x.of
			x.of.be(x.now)
		case x.of != nil && (x.differs() || x.of.isChanged()):
			x.of.be(x.now)
		case x.differs():
			f.adopt(x.now)
		}
	}
	f.settleFree(gone)
}

// settleFree brings the references of objects in StateFree up to what was written.
func (f *flush) settleFree(gone map[name]bool) {
	for _, o := range f.objects {
		if o.state != api.StateFree {
			continue
		}
		for place, id := range o.now.Ones {
			switch {
			case id == 0:
			case gone[f.target(o.now, place)]:
				o.now.Ones[place] = 0
			case id < 0 && f.ids[id] > 0:
				o.now.Ones[place] = f.ids[id]
			}
		}
	}
}
