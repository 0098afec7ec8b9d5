package schema_test

import (
	"slices"
	"testing"

	"dumbwaiter/api"
	"dumbwaiter/schema"
)

// zooWorld is a right world of zooLines.
func zooWorld() api.World {
	person := func(name, city string, zip api.Value) []api.Value {
		return []api.Value{text(name), text("new"), text(city), zip}
	}
	worker := func(name string, pay int) []api.Value {
		return append(person(name, "", null), integer(pay), null)
	}
	return api.World{
		Objects: []api.Object{
			{Entity: "person", ID: 1, Version: 1, Values: person("ann", "ulm", integer(7)), Ones: []int{0}},
			{Entity: "worker", ID: 2, Version: 3, Gone: moment(60), Values: worker("bob", 50), Ones: []int{1, 2}},
			{Entity: "worker", ID: 3, Version: api.MaxInt, Values: worker("cat", 51), Ones: []int{3, 2}},
			{Entity: "person", ID: 9, Version: 1, Values: person("dan", "o'x  y", integer(7)), Ones: []int{2}},
			{Entity: "pet", Tenant: 1, ID: 1, Values: []api.Value{text("")}, Ones: []int{2}},
			{Entity: "dog", Tenant: 1, ID: 2, Values: []api.Value{null, boolean(0), text("x")}, Ones: []int{0, 1}},
			{Entity: "puppy", Tenant: 1, ID: 3, Gone: moment(0), Values: []api.Value{null, boolean(1), text("x"), integer(3)}, Ones: []int{1, 3}},
			{Entity: "cat", Tenant: 1, ID: 4, Values: []api.Value{null, integer(9)}, Ones: []int{0, 3}},
			{Entity: "cat", Tenant: 1, ID: 5, Values: []api.Value{null, integer(9)}, Ones: []int{0, 0}},
			{Entity: "dog", Tenant: 2, ID: 1, Values: []api.Value{null, boolean(1), text("x")}, Ones: []int{9, 1}},
			{Entity: "dog", Tenant: 2, ID: 2, Values: []api.Value{null, boolean(0), text("x")}, Ones: []int{0, 0}},
			{Entity: "cat", Tenant: 2, ID: 3, Values: []api.Value{null, integer(9)}, Ones: []int{0, 2}},
			{Entity: "tag", ID: 1, Values: []api.Value{null}},
			{Entity: "tag", ID: api.MaxInt, Values: []api.Value{text("t")}},
		},
		Pairs: []api.PairOf{
			{Entity: "cat", Relation: "prey", Tenant: 1, Left: 4, Right: 1}, {Entity: "cat", Relation: "prey", Tenant: 2, Left: 3, Right: 1},
			{Entity: "person", Relation: "tags", Left: 1, Right: 1}, {Entity: "person", Relation: "tags", Left: 2, Right: 1}, {Entity: "person", Relation: "tags", Left: 2, Right: api.MaxInt},
			{Entity: "pet", Relation: "friends", Tenant: 1, Left: 1, Right: 1}, {Entity: "pet", Relation: "friends", Tenant: 1, Left: 1, Right: 3}, {Entity: "pet", Relation: "friends", Tenant: 2, Left: 1, Right: 3},
			{Entity: "tag", Relation: "over", Left: api.MaxInt, Right: 1},
		},
	}
}

// ofWorld makes a fault of a world.
func ofWorld(spot string, want api.Errno, change func(w *api.World)) fault[api.World] {
	return fault[api.World]{spot, change, want}
}

// ofObject makes a fault of an object.
func ofObject(spot string, i int, want api.Errno, change func(o *api.Object)) fault[api.World] {
	return ofWorld(spot, want, func(w *api.World) { change(&w.Objects[i]) })
}

// ofPair makes a fault of a pair.
func ofPair(spot string, i int, want api.Errno, change func(p *api.PairOf)) fault[api.World] {
	return ofWorld(spot, want, func(w *api.World) { change(&w.Pairs[i]) })
}

// P2.14, item 1 and 2
func objectFaults() []fault[api.World] {
	return []fault[api.World]{
		ofWorld("size", api.ErrLarge, func(w *api.World) { w.Objects = append(w.Objects, make([]api.Object, 5000)...) }),
		ofWorld("size", api.ErrLarge, func(w *api.World) { w.Pairs = append(w.Pairs, make([]api.PairOf, 5000)...) }),
		ofObject("0", 0, api.ErrName, func(o *api.Object) { o.Entity = "" }),
		ofObject("0", 0, api.ErrName, func(o *api.Object) { o.Entity = "address" }),
		ofObject("0 tenant", 0, api.ErrForm, func(o *api.Object) { o.Tenant = 1 }),
		ofObject("0 tenant", 0, api.ErrForm, func(o *api.Object) { o.Tenant = -1 }),
		ofObject("0 id", 0, api.ErrArg, func(o *api.Object) { o.ID = 0 }),
		ofObject("0 id", 0, api.ErrArg, func(o *api.Object) { o.ID = -1 }),
		ofObject("0 version", 0, api.ErrArg, func(o *api.Object) { o.Version = 0 }),
		ofObject("0 version", 0, api.ErrArg, func(o *api.Object) { o.Version = api.MaxInt + 1 }),
		ofObject("0 gone", 0, api.ErrType, func(o *api.Object) { o.Gone = integer(1) }),
		ofObject("0 gone", 0, api.ErrArg, func(o *api.Object) { o.Gone = moment(-1) }),
		ofObject("0 gone", 0, api.ErrForm, func(o *api.Object) { o.Gone.N = 1 }),
		ofObject("0 count", 0, api.ErrForm, func(o *api.Object) { o.Values = append(o.Values, null) }),
		ofObject("0 count", 0, api.ErrForm, func(o *api.Object) { o.Values = o.Values[:3] }),
		ofObject("0 ones", 0, api.ErrForm, func(o *api.Object) { o.Ones = nil }),
		ofObject("0 ones", 0, api.ErrForm, func(o *api.Object) { o.Ones = append(o.Ones, 0) }),
		ofObject("1 name", 1, api.ErrNull, func(o *api.Object) { o.Values[0] = null }),
		ofObject("1 name", 1, api.ErrType, func(o *api.Object) { o.Values[0] = integer(1) }),
		ofObject("1 name", 1, api.ErrArg, func(o *api.Object) { o.Values[0] = text("\n") }),
		ofObject("1 state", 1, api.ErrArg, func(o *api.Object) { o.Values[1] = text("odd") }),
		ofObject("1 state", 1, api.ErrNull, func(o *api.Object) { o.Values[1] = null }),
		ofObject("1 city", 1, api.ErrArg, func(o *api.Object) { o.Values[2] = text("Ulm") }),
		ofObject("1 pay", 1, api.ErrForm, func(o *api.Object) { o.Values[4] = api.Value{Kind: 7} }),
		ofObject("1 mate", 1, api.ErrArg, func(o *api.Object) { o.Ones[0] = -1 }),
		ofObject("1 mate", 1, api.ErrArg, func(o *api.Object) { o.Ones[0] = api.MaxInt + 1 }),
		ofObject("1 boss", 1, api.ErrNull, func(o *api.Object) { o.Ones[1] = 0 }),
		ofObject("1 boss", 1, api.ErrArg, func(o *api.Object) { o.Ones[1] = -1 }),
		ofObject("3 id", 3, api.ErrTwice, func(o *api.Object) { o.ID = 3 }),
		ofObject("3 id", 3, api.ErrOrder, func(o *api.Object) { o.ID = 2 }),
		ofObject("4 version", 4, api.ErrForm, func(o *api.Object) { o.Version = 1 }),
		ofObject("4 tenant", 4, api.ErrArg, func(o *api.Object) { o.Tenant = 0 }),
		ofObject("4 tenant", 4, api.ErrArg, func(o *api.Object) { o.Tenant = api.MaxInt + 1 }),
		ofObject("9 id", 9, api.ErrTwice, func(o *api.Object) { o.ID, o.Tenant = 5, 1 }),
		ofObject("10 tenant", 10, api.ErrOrder, func(o *api.Object) { o.Tenant = 1 }),
		ofObject("12 gone", 12, api.ErrForm, func(o *api.Object) { o.Gone = moment(1) }),
		ofObject("12 gone", 12, api.ErrForm, func(o *api.Object) { o.Gone.S = "a" }),
		ofObject("12 id", 12, api.ErrArg, func(o *api.Object) { o.ID = api.MaxInt + 1 }),
		ofWorld("13", api.ErrOrder, func(w *api.World) { w.Objects[13] = zooWorld().Objects[0] }),
	}
}

// P2.14, item 3
func pairFaults() []fault[api.World] {
	return []fault[api.World]{
		ofPair("p0", 0, api.ErrName, func(p *api.PairOf) { p.Entity = "" }),
		ofPair("p0", 0, api.ErrName, func(p *api.PairOf) { p.Entity = "pet" }),
		ofPair("p0", 0, api.ErrName, func(p *api.PairOf) { p.Relation = "fears" }),
		ofPair("p0 tenant", 0, api.ErrArg, func(p *api.PairOf) { p.Tenant = 0 }),
		ofPair("p0 left", 0, api.ErrArg, func(p *api.PairOf) { p.Left = 0 }),
		ofPair("p0 right", 0, api.ErrArg, func(p *api.PairOf) { p.Right = api.MaxInt + 1 }),
		ofPair("p1 tenant", 1, api.ErrTwice, func(p *api.PairOf) { p.Tenant, p.Left = 1, 4 }),
		ofPair("p1 tenant", 1, api.ErrOrder, func(p *api.PairOf) { p.Tenant = 1 }),
		ofPair("p2", 2, api.ErrName, func(p *api.PairOf) { p.Entity = "worker" }),
		ofPair("p2", 2, api.ErrName, func(p *api.PairOf) { p.Entity, p.Relation = "tag", "people" }),
		ofPair("p2", 2, api.ErrName, func(p *api.PairOf) { p.Relation = "pets" }),
		ofPair("p2 tenant", 2, api.ErrForm, func(p *api.PairOf) { p.Tenant = 1 }),
		ofPair("p2 right", 2, api.ErrArg, func(p *api.PairOf) { p.Right = -1 }),
		ofPair("p4", 4, api.ErrTwice, func(p *api.PairOf) { p.Right = 1 }),
		ofPair("p4", 4, api.ErrOrder, func(p *api.PairOf) { p.Left = 1 }),
		ofPair("p5", 5, api.ErrName, func(p *api.PairOf) { p.Entity = "dog" }),
		ofPair("p5", 5, api.ErrArg, func(p *api.PairOf) { p.Left = 3 }),
		ofPair("p8", 8, api.ErrName, func(p *api.PairOf) { p.Relation = "under" }),
		ofPair("p8", 8, api.ErrOrder, func(p *api.PairOf) { p.Entity, p.Relation, p.Left = "person", "tags", 9 }),
	}
}

// P2.14, items 4 and 5
func laterFaults() []fault[api.World] {
	return []fault[api.World]{
		ofObject("0 one", 0, api.ErrRef, func(o *api.Object) { o.Ones[0] = 4 }),
		// There is such an object, but none of worker, dog or pet, or it has another tenant.
		ofObject("2 one", 2, api.ErrRef, func(o *api.Object) { o.Ones[1] = 1 }),
		ofObject("7 one", 7, api.ErrRef, func(o *api.Object) { o.Ones[1] = 1 }),
		ofObject("9 one", 9, api.ErrRef, func(o *api.Object) { o.Ones[1] = 4 }),
		ofObject("10 one", 10, api.ErrRef, func(o *api.Object) { o.Ones[0] = 5 }),
		ofPair("p1 tenant", 0, api.ErrRef, func(p *api.PairOf) { p.Left = 2 }),
		ofPair("p1 tenant", 1, api.ErrRef, func(p *api.PairOf) { p.Right = 3 }),
		ofPair("p4", 4, api.ErrRef, func(p *api.PairOf) { p.Left = 5 }),
		ofPair("p7 end", 7, api.ErrRef, func(p *api.PairOf) { p.Right = 4 }),
		// Unique values: within all of the entity and below it, and within a tenant.
		ofObject("3 name", 3, api.ErrKey, func(o *api.Object) { o.Values[0] = text("bob") }),
		ofObject("3 zip", 3, api.ErrKey, func(o *api.Object) { o.Ones[0] = 1 }).with(func(w *api.World) { w.Objects[1].Values[3] = integer(7) }),
		ofObject("2 pay", 2, api.ErrKey, func(o *api.Object) { o.Values[4] = integer(50) }),
		ofObject("2 since", 2, api.ErrKey, func(o *api.Object) { o.Values[5] = moment(0) }).with(func(w *api.World) { w.Objects[1].Values[5] = moment(0) }),
		ofObject("6 good", 6, api.ErrKey, func(o *api.Object) { o.Values[1] = boolean(0) }),
		ofObject("8 fears", 8, api.ErrKey, func(o *api.Object) { o.Ones[1] = 3 }),
	}
}

// with makes a further change.
func (f fault[T]) with(change func(x *T)) fault[T] {
	first := f.change
	f.change = func(x *T) {
		first(x)
		change(x)
	}
	return f
}

// P2.14
func TestCheckWorldFaults(t *testing.T) {
	m := zoo(t)
	faults := slices.Concat(objectFaults(), pairFaults(), laterFaults())
	tryFaults(t, zooWorld(), func(w api.World) api.Errno { return schema.CheckWorld(m, w) }, faults)
}

// P2.14: the error of the model comes first, and each function with a world has its errors.
func TestWorldErrors(t *testing.T) {
	m, w := zoo(t), zooWorld()
	wrong := clone(m)
	wrong.Entities[2].Fields[0].Kind = 9
	w.Objects[0].ID = 0
	for _, x := range []struct {
		m    api.Model
		want api.Errno
	}{{wrong, api.ErrKind}, {m, api.ErrArg}} {
		if err := schema.CheckWorld(x.m, w); err != x.want {
			t.Error(err, x.want)
		}
		if d, err := schema.Rows(x.m, w); err != x.want || len(d.Tables) > 0 {
			t.Error(d, err, x.want)
		}
		if l, err := schema.Living(x.m, w); err != x.want || len(l.Objects)+len(l.Pairs) > 0 {
			t.Error(l, err, x.want)
		}
	}
	if err := schema.CheckWorld(m, api.World{}); err != api.OK {
		t.Error(err)
	}
	if err := schema.CheckWorld(api.Model{}, api.World{}); err != api.OK {
		t.Error(err)
	}
	if err := schema.CheckWorld(api.Model{}, zooWorld()); err != api.ErrName {
		t.Error(err)
	}
}

// P2.14: references to objects of the own tenant, of one table, or of several.
func TestCheckWorldReferences(t *testing.T) {
	m := read(t, "entity a tenant", "one x b clear", "one y a clear", "one z c clear", "entity b of a", "entity c", "pairs p c p")
	object := func(entity string, tenant, id int, ones ...int) api.Object {
		return api.Object{Entity: entity, Tenant: tenant, ID: id, Ones: ones}
	}
	for _, x := range []struct {
		ones []int // of the object of a with the tenant 1 and the id 1
		want api.Errno
	}{
		{[]int{2, 0, 0}, api.OK}, {[]int{1, 0, 0}, api.ErrRef}, {[]int{3, 0, 0}, api.ErrRef}, {[]int{0, 1, 0}, api.OK}, {[]int{0, 2, 0}, api.OK}, {[]int{0, 3, 0}, api.ErrRef}, {[]int{0, 0, 7}, api.OK}, {[]int{0, 0, 1}, api.ErrRef},
	} {
		w := api.World{Objects: []api.Object{object("a", 1, 1, x.ones...), object("b", 1, 2, 0, 0, 0), object("b", 2, 3, 0, 3, 7), object("c", 0, 7)}}
		if err := schema.CheckWorld(m, w); err != x.want {
			t.Error(x, err)
		}
	}
	w := api.World{Objects: []api.Object{object("c", 0, 7)}, Pairs: []api.PairOf{{Entity: "c", Relation: "p", Left: 7, Right: 7}}}
	if err := schema.CheckWorld(m, w); err != api.OK {
		t.Error(err)
	}
}

// P2.14: the greatest numbers of objects and pairs. CheckWorld relies on it that tables can have a row for each of them.
func TestCheckWorldLarge(t *testing.T) {
	if api.MaxRows < api.MaxObjects || api.MaxRows < api.MaxPairs {
		t.Error("tables can be too large")
	}
	m := read(t, "entity a", "field x int", "one y a clear", "pairs p a", "unique x y", "entity b of a", "entity c")
	var w api.World
	for i := range api.MaxObjects {
		o := api.Object{Entity: []string{"a", "b"}[i%2], ID: i + 1, Values: []api.Value{integer(i / 2)}, Ones: []int{1 + i%2}}
		w.Objects = append(w.Objects, o)
		w.Pairs = append(w.Pairs, api.PairOf{Entity: "a", Relation: "p", Left: 1 + i/100, Right: 1 + i%100})
	}
	d, err := schema.Rows(m, w)
	if err != api.OK || len(d.Tables[0].Rows) != api.MaxRows || len(d.Tables[1].Rows) != api.MaxRows {
		t.Error(err)
	}
	if back, err := schema.World(m, d); err != api.OK || !same(back, w) {
		t.Error(err)
	}
	more := api.World{Objects: append(clone(w.Objects), api.Object{Entity: "c", ID: 1}), Pairs: w.Pairs}
	if err := schema.CheckWorld(m, more); err != api.ErrLarge {
		t.Error(err)
	}
	more = api.World{Objects: w.Objects, Pairs: append(clone(w.Pairs), api.PairOf{Entity: "a", Relation: "p", Left: 100, Right: 1})}
	if err := schema.CheckWorld(m, more); err != api.ErrLarge {
		t.Error(err)
	}
	// Each table has few enough rows, but they tell too many objects.
	d.Tables[2].Rows = [][]api.Value{{integer(1)}}
	if back, err := schema.World(m, d); err != api.ErrLarge || len(back.Objects)+len(back.Pairs) > 0 {
		t.Error(err)
	}
}
