package schema_test

import (
	"slices"
	"testing"

	"dumbwaiter/api"
	"dumbwaiter/schema"
)

// rowsOf returns the rows of a table.
func rowsOf(d api.Data, table string) [][]api.Value {
	i := slices.IndexFunc(d.Tables, func(t api.TableRows) bool { return t.Table == table })
	return d.Tables[i].Rows
}

// zooRows are the rows of zooWorld.
func zooRows() map[string][][]api.Value {
	n := integer
	return map[string][][]api.Value{
		"person": {
			{n(1), text("person"), n(1), null, text("ann"), text("new"), text("ulm"), n(7), null, null, null, null},
			{n(2), text("worker"), n(3), moment(60), text("bob"), text("new"), text(""), null, n(1), n(50), null, n(2)},
			{n(3), text("worker"), n(api.MaxInt), null, text("cat"), text("new"), text(""), null, n(3), n(51), null, n(2)},
			{n(9), text("person"), n(1), null, text("dan"), text("new"), text("o'x  y"), n(7), n(2), null, null, null},
		},
		"pet": {
			{n(1), n(1), text("pet"), null, text(""), n(2)}, {n(1), n(2), text("dog"), null, null, null}, {n(1), n(3), text("puppy"), moment(0), null, n(1)}, {n(1), n(4), text("cat"), null, null, null}, {n(1), n(5), text("cat"), null, null, null},
			{n(2), n(1), text("dog"), null, null, n(9)}, {n(2), n(2), text("dog"), null, null, null}, {n(2), n(3), text("cat"), null, null, null},
		},
		"dog": {
			{n(1), n(2), boolean(0), text("x"), n(1)}, {n(1), n(3), boolean(1), text("x"), n(3)},
			{n(2), n(1), boolean(1), text("x"), n(1)}, {n(2), n(2), boolean(0), text("x"), null},
		},
		"puppy":       {{n(1), n(3), n(3)}},
		"cat":         {{n(1), n(4), n(9), n(3)}, {n(1), n(5), n(9), null}, {n(2), n(3), n(9), n(2)}},
		"tag":         {{n(1), null}, {n(api.MaxInt), text("t")}},
		"cat_prey":    {{n(1), n(4), n(1)}, {n(2), n(3), n(1)}},
		"person_tags": {{n(1), n(1)}, {n(2), n(1)}, {n(2), n(api.MaxInt)}},
		"pet_friends": {{n(1), n(1), n(1)}, {n(1), n(1), n(3)}, {n(2), n(1), n(3)}},
		"tag_over":    {{n(api.MaxInt), n(1)}},
	}
}

// P2.15, P2.16
func TestRowsAndWorld(t *testing.T) {
	m := zoo(t)
	d, err := schema.Rows(m, zooWorld())
	s, _ := schema.Tables(m)
	if err != api.OK || len(d.Tables) != len(s.Tables) {
		t.Fatal(d, err)
	}
	for i, table := range s.Tables {
		if d.Tables[i].Table != table.Name || !same(d.Tables[i].Rows, zooRows()[table.Name]) {
			t.Error(table.Name, d.Tables[i])
		}
	}
	if err := schema.CheckData(s, d); err != api.OK {
		t.Error(err)
	}
	if w, err := schema.World(m, d); err != api.OK || !same(w, zooWorld()) {
		t.Error(w, err)
	}
	d, err = schema.Rows(m, api.World{})
	if err != api.OK || len(d.Tables) != len(s.Tables) || schema.CheckData(s, d) != api.OK {
		t.Error(d, err)
	}
	if w, err := schema.World(m, d); err != api.OK || !same(w, api.World{}) {
		t.Error(w, err)
	}
}

// P2.15, P2.16: Rows and World are inverse to one another.
func TestRowsOfRandomWorlds(t *testing.T) {
	objects, pairs := 0, 0
	randomly(t, 600, func(t *testing.T, r maker) {
		m := r.model()
		w := r.world(m)
		objects, pairs = objects+len(w.Objects), pairs+len(w.Pairs)
		s, _ := schema.Tables(m)
		d, err := schema.Rows(m, w)
		if err != api.OK || schema.CheckData(s, d) != api.OK {
			t.Error(m, w, d, err, schema.CheckData(s, d))
		}
		if back, err := schema.World(m, d); err != api.OK || !same(back, w) {
			t.Error(m, w, back, err)
		}
	})
	if objects < 2000 || pairs < 400 {
		t.Error("few", objects, pairs)
	}
}

// P2.16: data with a change tell another world, of which they are Rows, or none.
func TestWorldOfRandomData(t *testing.T) {
	right, forms := 0, 0
	randomly(t, 400, func(t *testing.T, r maker) {
		m := r.model()
		s, _ := schema.Tables(m)
		d, _ := schema.Rows(m, r.world(m))
		for range 20 {
			i := r.Intn(len(d.Tables))
			if len(d.Tables[i].Rows) == 0 {
				continue
			}
			k := r.Intn(len(d.Tables[i].Rows))
			other := clone(d)
			column := r.Intn(len(s.Tables[i].Columns))
			switch r.Intn(3) {
			case 0:
				other.Tables[i].Rows[k][column] = null
			case 1:
				other.Tables[i].Rows[k][column] = r.value(s.Tables[i].Columns[column].Kind)
			default:
				other.Tables[i].Rows = slices.Delete(other.Tables[i].Rows, k, k+1)
			}
			w, err := schema.World(m, other)
			if dataErr := schema.CheckData(s, other); dataErr != api.OK {
				if err != dataErr || !same(w, api.World{}) {
					t.Error(w, err, dataErr)
				}
				continue
			}
			if err != api.OK {
				if forms++; !same(w, api.World{}) {
					t.Error(w, err)
				}
				continue
			}
			right++
			if back, err := schema.Rows(m, w); err != api.OK || !same(back, other) {
				t.Error(m, other, back, err)
			}
		}
	})
	if right < 500 || forms < 300 {
		t.Error("few", right, forms)
	}
}

// P2.16
func TestWorldErrorsOfData(t *testing.T) {
	m := zoo(t)
	n := integer
	base, _ := schema.Rows(m, zooWorld())
	for i, x := range []struct {
		table  string
		change func(rows *[][]api.Value)
		want   api.Errno
	}{
		// Errors of CheckData.
		{"tag", func(rows *[][]api.Value) { (*rows)[0][0] = text("a") }, api.ErrType},
		{"dog", func(rows *[][]api.Value) { *rows = append(*rows, []api.Value{n(2), n(9), boolean(0), null, null}) }, api.ErrRef},
		{"pet", func(rows *[][]api.Value) { *rows = (*rows)[1:] }, api.ErrRef},
		{"person", func(rows *[][]api.Value) { (*rows)[0][1] = null }, api.ErrNull},
		// Types that are none, or of another family.
		{"person", func(rows *[][]api.Value) { (*rows)[0][1] = text("house") }, api.ErrForm},
		{"person", func(rows *[][]api.Value) { (*rows)[0][1] = text("") }, api.ErrForm},
		{"person", func(rows *[][]api.Value) { (*rows)[0][1] = text("tag") }, api.ErrForm},
		{"pet", func(rows *[][]api.Value) { (*rows)[0][2] = text("person") }, api.ErrForm},
		// Values in columns of entities that the object is not of.
		{"person", func(rows *[][]api.Value) { (*rows)[0][9] = n(60) }, api.ErrForm},
		{"person", func(rows *[][]api.Value) { (*rows)[0][11] = n(2) }, api.ErrForm},
		{"person", func(rows *[][]api.Value) { (*rows)[1][1] = text("person") }, api.ErrForm},
		// Rows of a family that is apart that do not fit the type.
		{"pet", func(rows *[][]api.Value) { (*rows)[0][2] = text("dog") }, api.ErrForm},
		{"pet", func(rows *[][]api.Value) { (*rows)[1][2] = text("pet") }, api.ErrForm},
		{"pet", func(rows *[][]api.Value) { (*rows)[1][2] = text("cat") }, api.ErrForm},
		{"pet", func(rows *[][]api.Value) { (*rows)[1][2] = text("puppy") }, api.ErrForm},
		{"pet", func(rows *[][]api.Value) { (*rows)[2][2] = text("dog") }, api.ErrForm},
		{"puppy", func(rows *[][]api.Value) { *rows = nil }, api.ErrForm},
		{"puppy", func(rows *[][]api.Value) { *rows = append(*rows, []api.Value{n(2), n(1), null}) }, api.ErrForm},
		{"cat", func(rows *[][]api.Value) { *rows = slices.Insert(*rows, 0, []api.Value{n(1), n(1), n(1), null}) }, api.ErrForm},
		// Errors of CheckWorld.
		{"person", func(rows *[][]api.Value) { (*rows)[0][5] = text("odd") }, api.ErrArg},
		{"person", func(rows *[][]api.Value) { (*rows)[0][2] = n(0) }, api.ErrArg},
		{"person", func(rows *[][]api.Value) { (*rows)[1][9] = null }, api.ErrNull},
		{"person", func(rows *[][]api.Value) { (*rows)[1][11] = null }, api.ErrNull},
		{"person", func(rows *[][]api.Value) { (*rows)[1][11] = n(1) }, api.ErrRef},
		{"person", func(rows *[][]api.Value) { (*rows)[0][1] = text("worker") }, api.ErrNull},
		{"tag", func(rows *[][]api.Value) { *rows = slices.Insert(*rows, 0, []api.Value{n(0), null}) }, api.ErrArg},
		{"tag", func(rows *[][]api.Value) { *rows = slices.Insert(*rows, 0, []api.Value{n(-1), null}) }, api.ErrArg},
		{"pet", func(rows *[][]api.Value) {
			*rows = slices.Insert(*rows, 0, []api.Value{n(0), n(1), text("pet"), null, null, null})
		}, api.ErrArg},
		{"pet_friends", func(rows *[][]api.Value) { *rows = slices.Insert(*rows, 2, []api.Value{n(1), n(3), n(1)}) }, api.ErrArg},
	} {
		d := clone(base)
		k := slices.IndexFunc(d.Tables, func(t api.TableRows) bool { return t.Table == x.table })
		x.change(&d.Tables[k].Rows)
		if w, err := schema.World(m, d); err != x.want || !same(w, api.World{}) {
			t.Error(i, x.table, err, x.want)
		}
	}
	wrong := clone(m)
	wrong.Entities[0].Name = ""
	if _, err := schema.World(wrong, api.Data{}); err != api.ErrName {
		t.Error(err)
	}
	if _, err := schema.World(m, api.Data{}); err != api.ErrForm {
		t.Error(err)
	}
}

// P2.16: no reference stands in a column as 0, even if there is a row with this id.
func TestWorldOfReferenceToZero(t *testing.T) {
	m := read(t, "entity a", "one x a clear")
	for _, x := range []struct {
		first, second api.Value // what two rows with the ids 0 and 1 refer to
		want          api.Errno
	}{{null, null, api.ErrArg}, {null, integer(1), api.ErrArg}, {null, integer(0), api.ErrForm}, {integer(0), null, api.ErrForm}} {
		d := api.Data{Tables: []api.TableRows{{Table: "a", Rows: [][]api.Value{{integer(0), x.first}, {integer(1), x.second}}}}}
		if w, err := schema.World(m, d); err != x.want || !same(w, api.World{}) {
			t.Error(x, err)
		}
	}
}

// P2.16: pairs are sorted by entity and relation, not by the names of their tables.
func TestWorldOrderOfPairs(t *testing.T) {
	m := read(t, "entity a1", "pairs b a1", "entity a", "pairs z a", "pairs b9 a")
	w := api.World{
		Objects: []api.Object{{Entity: "a1", ID: 1}, {Entity: "a1", ID: 2}, {Entity: "a", ID: 1}},
		Pairs:   []api.PairOf{{Entity: "a", Relation: "b9", Left: 1, Right: 1}, {Entity: "a", Relation: "z", Left: 1, Right: 1}, {Entity: "a1", Relation: "b", Left: 1, Right: 2}, {Entity: "a1", Relation: "b", Left: 2, Right: 1}},
	}
	d, err := schema.Rows(m, w)
	if err != api.OK || d.Tables[2].Table != "a1_b" || d.Tables[3].Table != "a_b9" {
		t.Error(d, err)
	}
	if back, err := schema.World(m, d); err != api.OK || !same(back, w) {
		t.Error(back, err)
	}
}

// P2.17
func TestLiving(t *testing.T) {
	m := zoo(t)
	want := zooWorld()
	// bob, the worker 2, and the puppy 3 of tenant 1 are gone. What needs bob refers to nothing, too.
	want.Objects = slices.Delete(want.Objects, 6, 7)
	want.Objects = slices.Delete(want.Objects, 1, 2)
	want.Objects[1].Ones = []int{3, 0}
	want.Objects[2].Ones = []int{0}
	want.Objects[3].Ones = []int{0}
	want.Objects[5].Ones = []int{0, 0}
	want.Pairs = []api.PairOf{want.Pairs[0], want.Pairs[1], want.Pairs[2], want.Pairs[5], want.Pairs[7], want.Pairs[8]}
	got, err := schema.Living(m, zooWorld())
	if err != api.OK || !same(got, want) {
		t.Error(got, err)
	}
	if err := schema.CheckWorld(m, got); err != api.ErrNull {
		t.Error(err)
	}
	if got, err := schema.Living(m, api.World{}); err != api.OK || !same(got, api.World{}) {
		t.Error(got, err)
	}
}

// P2.17
func TestLivingOfRandomWorlds(t *testing.T) {
	gone := 0
	randomly(t, 400, func(t *testing.T, r maker) {
		m := r.model()
		w := r.world(m)
		got, err := schema.Living(m, w)
		want := wantedLiving(m, w)
		gone += len(w.Objects) - len(want.Objects)
		if err != api.OK || !same(got, want) {
			t.Error(m, w, got, want, err)
		}
	})
	if gone < 150 {
		t.Error("few", gone)
	}
}

// wantedLiving is Living as P2.17 says it.
func wantedLiving(m api.Model, w api.World) api.World {
	all := kinOf(m)
	isGone := func(entity string, tenant, id int) bool {
		k := all[entity]
		return slices.ContainsFunc(w.Objects, func(o api.Object) bool {
			return slices.Contains(k.below, o.Entity) && o.ID == id && (!k.root.Tenant || o.Tenant == tenant) && o.Gone != null
		})
	}
	var l api.World
	for _, o := range clone(w.Objects) {
		if o.Gone != null {
			continue
		}
		for i, s := range all[o.Entity].slots[len(o.Values):] {
			if isGone(s.To, o.Tenant, o.Ones[i]) {
				o.Ones[i] = 0
			}
		}
		l.Objects = append(l.Objects, o)
	}
	for _, p := range w.Pairs {
		relations, _ := schema.Relations(m, p.Entity)
		to := relations[slices.IndexFunc(relations, func(r api.Relation) bool { return r.Name == p.Relation })].To
		if !isGone(p.Entity, p.Tenant, p.Left) && !isGone(to, p.Tenant, p.Right) {
			l.Pairs = append(l.Pairs, p)
		}
	}
	return l
}
