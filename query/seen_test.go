package query_test

import (
	"slices"
	"testing"

	"dumbwaiter/api"
	"dumbwaiter/query"
)

// P5.3: what is seen.
func TestSeen(t *testing.T) {
	m, w := zoo(t), zooWorld(t)
	names := func(w api.World) (objects []api.Ref, pairs []api.PairOf) {
		for _, o := range w.Objects {
			objects = append(objects, ref(o.Entity, o.Tenant, o.ID))
		}
		return objects, w.Pairs
	}
	shared := []api.Ref{ref("person", 0, 1), ref("worker", 0, 2), ref("worker", 0, 4), ref("tag", 0, 1), ref("tag", 0, 2)}
	for _, c := range []struct {
		tenant  int
		gone    bool
		objects []api.Ref
		pairs   int
	}{
		{0, false, append(slices.Clone(shared), ref("dog", 1, 1), ref("puppy", 1, 2), ref("pet", 1, 4), ref("cat", 2, 5)), 8},
		{0, true, append(slices.Clone(shared), ref("person", 0, 3), ref("dog", 1, 1), ref("puppy", 1, 2), ref("cat", 1, 3), ref("pet", 1, 4), ref("dog", 2, 1), ref("cat", 2, 5)), 10},
		{1, false, append(slices.Clone(shared), ref("dog", 1, 1), ref("puppy", 1, 2), ref("pet", 1, 4)), 7},
		{2, true, append(slices.Clone(shared), ref("person", 0, 3), ref("dog", 2, 1), ref("cat", 2, 5)), 7},
		{3, false, shared, 5},
		{api.MaxInt + 1, false, shared, 5},
	} {
		got, err := query.Seen(m, w, c.tenant, c.gone)
		objects, pairs := names(got)
		if err != api.OK || len(objects) != len(c.objects) || len(pairs) != c.pairs {
			t.Error(c, objects, pairs, err)
		}
		for _, o := range c.objects {
			if !slices.Contains(objects, o) {
				t.Error(c, o)
			}
		}
		if want := naiveSeen(m, w, c.tenant, c.gone); !same(got, want) {
			t.Error(c, got, want)
		}
	}
	got, _ := query.Seen(m, w, 0, true)
	if !same(got, w) {
		t.Error(got)
	}
	got, _ = query.Seen(m, w, 0, false)
	if i := slices.IndexFunc(got.Objects, func(o api.Object) bool { return o.Entity == "worker" && o.ID == 4 }); !same(got.Objects[i].Ones, []int{0, 2}) {
		t.Error(got.Objects[i])
	}
}

// P5.3: errors of Seen.
func TestSeenErrors(t *testing.T) {
	type args struct {
		M      api.Model
		W      api.World
		Tenant int
	}
	tryFaults(t, args{zoo(t), zooWorld(t), 0}, func(x args) api.Errno {
		got, err := query.Seen(x.M, x.W, x.Tenant, false)
		if err != api.OK && !same(got, api.World{}) {
			t.Error(got)
		}
		return err
	}, []fault[args]{
		{"model", func(x *args) { x.M.Entities[1].Parent = "x" }, api.ErrName},
		{"world", func(x *args) { x.W.Objects[0].ID = 0 }, api.ErrArg},
		{"world", func(x *args) { x.W.Objects[0].Ones[0] = 9 }, api.ErrRef},
		{"tenant", func(x *args) { x.Tenant = -1 }, api.ErrArg},
	})
}

// P5.4: the objects of relations.
func TestRelated(t *testing.T) {
	for _, c := range []struct {
		o        api.Ref
		relation string
		want     []api.Ref
	}{
		{ref("person", 0, 1), "mate", []api.Ref{ref("worker", 0, 2)}},
		{ref("worker", 0, 2), "mate", nil},
		{ref("worker", 0, 4), "mate", []api.Ref{ref("person", 0, 3)}},
		{ref("worker", 0, 2), "boss", []api.Ref{ref("worker", 0, 2)}},
		{ref("puppy", 1, 2), "owner", []api.Ref{ref("person", 0, 1)}},
		{ref("cat", 2, 5), "fears", []api.Ref{ref("dog", 2, 1)}},
		{ref("cat", 1, 3), "fears", []api.Ref{ref("dog", 1, 1)}},
		{ref("person", 0, 1), "pets", []api.Ref{ref("dog", 1, 1), ref("puppy", 1, 2)}},
		{ref("worker", 0, 2), "pets", []api.Ref{ref("cat", 1, 3), ref("dog", 2, 1), ref("cat", 2, 5)}},
		{ref("worker", 0, 2), "dogs", []api.Ref{ref("dog", 2, 1)}},
		{ref("worker", 0, 2), "staff", []api.Ref{ref("worker", 0, 2), ref("worker", 0, 4)}},
		{ref("worker", 0, 4), "pets", nil},
		{ref("dog", 1, 1), "hunts", []api.Ref{ref("cat", 1, 3)}},
		{ref("dog", 2, 1), "hunts", []api.Ref{ref("cat", 2, 5)}},
		{ref("puppy", 1, 2), "hunts", nil},
		{ref("worker", 0, 2), "tags", []api.Ref{ref("tag", 0, 1), ref("tag", 0, 2)}},
		{ref("tag", 0, 1), "people", []api.Ref{ref("person", 0, 1), ref("worker", 0, 2)}},
		{ref("person", 0, 1), "friends", []api.Ref{ref("person", 0, 1), ref("worker", 0, 2)}},
		{ref("worker", 0, 2), "friends", []api.Ref{ref("person", 0, 1), ref("person", 0, 3)}},
		{ref("person", 0, 3), "friends", []api.Ref{ref("worker", 0, 2)}},
		{ref("worker", 0, 4), "friends", nil},
		{ref("dog", 1, 1), "likes", []api.Ref{ref("puppy", 1, 2), ref("cat", 1, 3)}},
		{ref("dog", 1, 1), "liked", nil},
		{ref("puppy", 1, 2), "likes", []api.Ref{ref("puppy", 1, 2)}},
		{ref("puppy", 1, 2), "liked", []api.Ref{ref("dog", 1, 1), ref("puppy", 1, 2)}},
		{ref("dog", 2, 1), "likes", nil},
		{ref("cat", 2, 5), "prey", []api.Ref{ref("tag", 0, 2)}},
	} {
		if got, err := query.Related(zoo(t), zooWorld(t), c.o, c.relation); !same(got, c.want) || err != api.OK {
			t.Error(c, got, err)
		}
	}
}

// P5.4, P5.5, P5.8: there must be such an object: its own entity, its tenant, its id; and errors behind that.
func TestObjectErrors(t *testing.T) {
	for _, c := range []struct {
		o    api.Ref
		name string
		want api.Errno
	}{
		{ref("person", 0, 2), "mate", api.ErrNone}, {ref("worker", 0, 1), "mate", api.ErrNone}, {ref("owl", 0, 1), "mate", api.ErrNone}, {ref("", 0, 1), "mate", api.ErrNone}, {ref("person", 1, 1), "mate", api.ErrNone}, {ref("person", 0, 9), "x", api.ErrNone}, {ref("dog", 0, 1), "owner", api.ErrNone}, {ref("dog", 3, 1), "owner", api.ErrNone}, {ref("pet", 1, 1), "owner", api.ErrNone}, {ref("person", 0, 0), "mate", api.ErrNone}, {ref("person", 0, -1), "mate", api.ErrNone},
		{ref("person", 0, 1), "boss", api.ErrName}, {ref("person", 0, 1), "", api.ErrName}, {ref("person", 0, 1), "mate.mate.", api.ErrName},
	} {
		got, err := query.Related(zoo(t), zooWorld(t), c.o, c.name)
		if len(got) > 0 || err != c.want {
			t.Error(c, got, err)
		}
		v, err := query.Look(zoo(t), zooWorld(t), c.o, c.name)
		if v != null || err != c.want {
			t.Error(c, v, err)
		}
		v, err = query.Holds(zoo(t), zooWorld(t), c.o, col("", c.name), nil)
		if v != null || err != c.want {
			t.Error(c, v, err)
		}
	}
	for name, want := range map[string]api.Errno{"name": api.ErrName, "id": api.ErrName, "adult": api.ErrName, "mate.pets": api.ErrName} {
		if got, err := query.Related(zoo(t), zooWorld(t), ref("person", 0, 1), name); len(got) > 0 || err != want {
			t.Error(name, got, err)
		}
	}
	if v, err := query.Look(zoo(t), zooWorld(t), ref("person", 0, 1), "mate.mate.mate.mate.mate.x"); v != null || err != api.ErrLarge {
		t.Error(v, err)
	}
	bad := zooWorld(t)
	bad.Objects[1].Version = 0
	_, e1 := query.Related(zoo(t), bad, ref("", 0, 0), "")
	_, e2 := query.Look(zoo(t), bad, ref("", 0, 0), "")
	_, e3 := query.Holds(zoo(t), bad, ref("", 0, 0), api.Expr{}, nil)
	_, e4 := query.Objects(zoo(t), bad, api.Find{}, row(integer(api.MaxInt+1)))
	_, e5 := query.Answer(zoo(t), bad, api.Find{}, nil)
	_, e6 := query.Totals(zoo(t), bad, api.Total{}, row(integer(api.MaxInt+1)))
	if !same([]api.Errno{e1, e2, e3, e4, e5, e6}, []api.Errno{api.ErrArg, api.ErrArg, api.ErrArg, api.ErrArg, api.ErrArg, api.ErrArg}) {
		t.Error(e1, e2, e3, e4, e5, e6)
	}
}

// P5.5: values of paths.
func TestLook(t *testing.T) {
	for _, c := range []struct {
		o    api.Ref
		path string
		want api.Value
	}{
		{ref("person", 0, 1), "name", text("ann")}, {ref("person", 0, 1), "home.city", text("ulm")}, {ref("person", 0, 1), "home.zip", null},
		{ref("person", 0, 1), "adult", boolean(1)}, {ref("worker", 0, 2), "adult", null}, {ref("worker", 0, 2), "tall", text("bob!")},
		{ref("puppy", 1, 2), "nick", text("dog")}, {ref("dog", 1, 1), "nick", text("rex")}, {ref("puppy", 1, 2), "weeks", integer(6)},
		{ref("person", 0, 1), "id", integer(1)}, {ref("worker", 0, 2), "version", integer(3)}, {ref("person", 0, 3), "gone", moment(60)}, {ref("person", 0, 1), "gone", null}, {ref("cat", 2, 5), "tenant", integer(2)},
		{ref("person", 0, 1), "mate", integer(2)}, {ref("worker", 0, 2), "mate", null},
		{ref("person", 0, 1), "mate.name", text("bob")}, {ref("worker", 0, 2), "mate.name", null}, {ref("worker", 0, 2), "mate.id", null}, {ref("worker", 0, 2), "mate.mate.mate.tall", null},
		{ref("worker", 0, 4), "mate", integer(3)}, {ref("worker", 0, 4), "mate.gone", moment(60)}, {ref("worker", 0, 4), "boss.boss.pay", integer(50)},
		{ref("cat", 1, 3), "fears.nick", text("rex")}, {ref("cat", 1, 3), "fears.rival", integer(3)}, {ref("cat", 2, 5), "fears.gone", moment(0)},
	} {
		if got, err := query.Look(zoo(t), zooWorld(t), c.o, c.path); got != c.want || err != api.OK {
			t.Error(c, got, err)
		}
	}
	// Of nulls, too, the formula of nick makes a value, but there is no dog.
	w := zooWorld(t)
	w.Objects[9].Ones[1] = 0
	if got, err := query.Look(zoo(t), w, ref("cat", 2, 5), "fears.nick"); got != null || err != api.OK {
		t.Error(got, err)
	}
}

// P5.4, P5.5, P5.6, P5.8, P5.3: relations, paths, conditions of objects at random are what the document says, also of objects that are gone.
func TestRandomObjects(t *testing.T) {
	randomly(t, 300, func(t *testing.T, r *maker) {
		w := r.world(8)
		n := naive{r.m, w, r.params}
		for i := range w.Objects {
			o := &n.w.Objects[i]
			name := ref(o.Entity, o.Tenant, o.ID)
			ones, others := r.membersOf(o.Entity)
			for _, x := range append(ones, others...) {
				var want []api.Ref
				for _, other := range n.related(o, x.Name) {
					want = append(want, ref(other.Entity, other.Tenant, other.ID))
				}
				if got, err := query.Related(r.m, w, name, x.Name); !same(got, want) || err != api.OK {
					t.Error(name, x.Name, got, want, err)
				}
			}
			kind := 1 + r.Intn(4)
			if path := r.path(o.Entity, kind, 4); path != "" {
				if got, err := query.Look(r.m, w, name, path); got != n.look(o, path) || err != api.OK {
					t.Error(name, path, got, err)
				}
			}
			e := r.condition(kind, 3, at{o.Entity, ""})
			if got, err := query.Holds(r.m, w, name, e, r.params); got != n.eval(e, o, nil) || err != api.OK {
				text, _ := query.ExprText(e)
				t.Error(name, text, got, err)
			}
		}
		if got, err := query.Seen(r.m, w, r.Intn(3), r.chance(2)); err != api.OK || len(got.Objects) > len(w.Objects) {
			t.Error(got, err)
		}
	})
}
