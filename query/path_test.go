package query_test

import (
	"slices"
	"strings"
	"testing"

	"dumbwaiter/api"
	"dumbwaiter/query"
)

// P5.1, P5.2: slots of paths to values.
func TestPath(t *testing.T) {
	mates := func(n int, end string) string { return strings.Repeat("mate.", n) + end }
	for _, c := range []struct {
		entity, path string
		want         api.Slot
	}{
		{"person", "name", api.Slot{Entity: "person", Kind: api.Text}},
		{"person", "age", api.Slot{Entity: "person", Kind: api.Int, Null: true}},
		{"worker", "age", api.Slot{Entity: "person", Kind: api.Int, Null: true}},
		{"worker", "home.city", api.Slot{Entity: "person", Kind: api.Text, Null: true}},
		{"worker", "adult", api.Slot{Entity: "person", Kind: api.Bool, Null: true}},
		{"puppy", "nick", api.Slot{Entity: "dog", Kind: api.Text, Null: true}},
		{"worker", "boss", api.Slot{Entity: "worker", Kind: api.Int, To: "worker"}},
		{"person", "mate", api.Slot{Entity: "person", Kind: api.Int, To: "person", Null: true}},
		{"worker", "id", api.Slot{Entity: "worker", Kind: api.Int}},
		{"worker", "version", api.Slot{Entity: "worker", Kind: api.Int}},
		{"worker", "gone", api.Slot{Entity: "worker", Kind: api.Moment, Null: true}},
		{"puppy", "tenant", api.Slot{Entity: "puppy", Kind: api.Int}},
		{"worker", "boss.pay", api.Slot{Entity: "worker", Kind: api.Int}},
		{"worker", "boss.boss.boss", api.Slot{Entity: "worker", Kind: api.Int, To: "worker"}},
		{"worker", "boss.id", api.Slot{Entity: "worker", Kind: api.Int}},
		{"worker", "boss.mate.name", api.Slot{Entity: "person", Kind: api.Text, Null: true}},
		{"worker", "boss.mate.id", api.Slot{Entity: "person", Kind: api.Int, Null: true}},
		{"cat", "fears.rival.owner.home.zip", api.Slot{Entity: "person", Kind: api.Int, Null: true}},
		{"cat", "fears.tenant", api.Slot{Entity: "dog", Kind: api.Int, Null: true}},
		{"person", mates(4, "name"), api.Slot{Entity: "person", Kind: api.Text, Null: true}},
		{"person", mates(4, "mate"), api.Slot{Entity: "person", Kind: api.Int, To: "person", Null: true}},
	} {
		c.want.Name = c.path
		if got, err := query.Path(zoo(t), c.entity, c.path); got != c.want || err != api.OK {
			t.Error(c, got, err)
		}
	}
}

// P5.2: errors of paths to values.
func TestPathErrors(t *testing.T) {
	mates := func(n int, end string) string { return strings.Repeat("mate.", n) + end }
	for _, c := range []struct {
		entity, path string
		want         api.Errno
	}{
		{"owl", "name", api.ErrName}, {"", "id", api.ErrName}, {"owl", mates(5, "x"), api.ErrName},
		{"person", mates(5, "name"), api.ErrLarge}, {"person", mates(5, "mate"), api.ErrLarge}, {"person", mates(5, "x"), api.ErrLarge}, {"person", mates(5, ""), api.ErrLarge}, {"person", mates(5, "pets.x"), api.ErrLarge}, {"person", mates(20000, "name"), api.ErrLarge},
		{"person", mates(4, "x"), api.ErrName}, {"person", mates(4, "pets.name.name"), api.ErrName}, {"person", mates(4, ""), api.ErrName},
		{"person", "", api.ErrName}, {"person", ".", api.ErrName}, {"person", ".name", api.ErrName}, {"person", "name.", api.ErrName}, {"person", "mate..name", api.ErrName}, {"person", "mate. name", api.ErrName}, {"person", " name", api.ErrName},
		{"person", "pay", api.ErrName}, {"person", "pets", api.ErrName}, {"person", "pets.name", api.ErrName}, {"person", "tags", api.ErrName}, {"person", "home", api.ErrName}, {"person", "city", api.ErrName}, {"person", "home.street", api.ErrName}, {"person", "name.name", api.ErrName}, {"person", "adult.name", api.ErrName}, {"person", "id.name", api.ErrName},
		{"person", "tenant", api.ErrName}, {"pet", "version", api.ErrName}, {"tag", "gone", api.ErrName}, {"person", "type", api.ErrName}, {"pet", "owner.tenant", api.ErrName}, {"pet", "nick", api.ErrName}, {"cat", "good", api.ErrName},
	} {
		if got, err := query.Path(zoo(t), c.entity, c.path); got != (api.Slot{}) || err != c.want {
			t.Error(c, got, err)
		}
	}
	bad := zoo(t)
	bad.Entities[0].Name = "Person"
	if _, err := query.Path(bad, "owl", ""); err != api.ErrName {
		t.Error(err)
	}
	if _, err := query.Path(api.Model{Entities: make([]api.Entity, 17)}, "", ""); err != api.ErrLarge {
		t.Error(err)
	}
}

// P5.1, P5.2: paths to many.
func TestMany(t *testing.T) {
	mates := func(n int, end string) string { return strings.Repeat("mate.", n) + end }
	for _, c := range []struct {
		entity, path, want string
		err                api.Errno
	}{
		{"person", "pets", "pet", api.OK}, {"worker", "dogs", "dog", api.OK}, {"worker", "staff", "worker", api.OK}, {"person", "friends", "person", api.OK}, {"puppy", "likes", "pet", api.OK}, {"tag", "people", "person", api.OK}, {"cat", "fears.hunts", "cat", api.OK}, {"person", mates(3, "tags"), "tag", api.OK},
		{"person", mates(4, "tags"), "", api.ErrLarge}, {"person", mates(4, "x"), "", api.ErrLarge}, {"person", mates(4, "mate"), "", api.ErrLarge}, {"person", mates(4, ""), "", api.ErrLarge},
		{"person", mates(3, "mate"), "", api.ErrName}, {"person", mates(3, "x"), "", api.ErrName}, {"person", "", "", api.ErrName}, {"person", "mate", "", api.ErrName}, {"person", "name", "", api.ErrName}, {"person", "pets.likes", "", api.ErrName}, {"person", "tags.people", "", api.ErrName}, {"person", "staff", "", api.ErrName}, {"person", "pets.", "", api.ErrName}, {"owl", "pets", "", api.ErrName}, {"owl", mates(4, "x"), "", api.ErrName},
	} {
		if got, err := query.Many(zoo(t), c.entity, c.path); got != c.want || err != c.err {
			t.Error(c, got, err)
		}
	}
}

// P5.1: entities that are further down, several of them below one.
func TestDeepFamilies(t *testing.T) {
	m := model(t, "entity a", "field fa int", "entity b of a", "field fb int", "entity c of b", "field fc int", "entity d of c", "field fd int", "entity e of c", "field fe int", "entity f of c", "field ff int", "entity g of d", "field fg int", "entity h of d", "field fh int")
	above := map[string]string{"a": "a", "b": "ab", "c": "abc", "d": "abcd", "e": "abce", "f": "abcf", "g": "abcdg", "h": "abcdh"}
	for entity, line := range above {
		for other := range above {
			want := api.ErrName
			if strings.Contains(line, other) {
				want = api.OK
			}
			if slot, err := query.Path(m, entity, "f"+other); err != want || err == api.OK && slot.Entity != other {
				t.Error(entity, other, slot, err)
			}
		}
	}
	l, err := query.Columns(m, "c")
	if len(l) != 8 || l[3].Name != "fd" || l[7].Name != "fh" || err != api.OK {
		t.Error(l, err)
	}
	kinds := map[string][]string{}
	var w api.World
	for i, entity := range []string{"a", "b", "c", "d", "e", "f", "g", "h"} {
		w.Objects = append(w.Objects, api.Object{Entity: entity, ID: i + 1, Values: slices.Repeat(row(integer(1)), len(above[entity]))})
	}
	for entity := range above {
		refs, err := query.Objects(m, w, api.Find{Entity: "a", Where: []api.Expr{{Kind: api.XIs, Name: entity}}, Limit: -1}, nil)
		must(t, err)
		for _, o := range refs {
			kinds[o.Entity] = append(kinds[o.Entity], entity)
		}
	}
	for entity, l := range kinds {
		slices.Sort(l)
		if want := strings.Split(above[entity], ""); !same(l, want) {
			t.Error(entity, l)
		}
	}
}

// P5.17: steps of inclusions.
func TestSteps(t *testing.T) {
	step := func(from int, relation, entity, to string) api.Step {
		return api.Step{From: from, Relation: relation, Entity: entity, To: to}
	}
	for _, c := range []struct {
		entity  string
		include []string
		want    []api.Step
	}{
		{"person", nil, nil},
		{"pet", []string{"owner.mate", "likes"}, []api.Step{step(-1, "likes", "pet", "pet"), step(-1, "owner", "pet", "person"), step(1, "mate", "person", "person")}},
		{"puppy", []string{"rival", "rival", "owner"}, []api.Step{step(-1, "owner", "pet", "person"), step(-1, "rival", "dog", "pet")}},
		{"worker", []string{"pets.likes.liked.owner", "pets.owner", "boss.tags.people", "pets"}, []api.Step{step(-1, "boss", "worker", "worker"), step(0, "tags", "person", "tag"), step(1, "people", "tag", "person"), step(-1, "pets", "person", "pet"), step(3, "likes", "pet", "pet"), step(4, "liked", "pet", "pet"), step(5, "owner", "pet", "person"), step(3, "owner", "pet", "person")}},
	} {
		if got, err := query.Steps(zoo(t), c.entity, c.include); !same(got, c.want) || err != api.OK {
			t.Error(c, got, err)
		}
	}
}

// P5.17: names are compared one by one: a name that another one begins with comes first, whatever stands behind it.
func TestStepsOrder(t *testing.T) {
	m := model(t, "entity a", "one b a clear", "one b0 a clear", "one c a clear")
	got, err := query.Steps(m, "a", []string{"b0", "b.c", "c", "b.b0"})
	want := []api.Step{{From: -1, Relation: "b", Entity: "a", To: "a"}, {From: 0, Relation: "b0", Entity: "a", To: "a"}, {From: 0, Relation: "c", Entity: "a", To: "a"}, {From: -1, Relation: "b0", Entity: "a", To: "a"}, {From: -1, Relation: "c", Entity: "a", To: "a"}}
	if !same(got, want) || err != api.OK {
		t.Error(got, err)
	}
}

// P5.17: errors of inclusions.
func TestStepsErrors(t *testing.T) {
	many := func(n int) []string { return strings.Split(strings.Repeat("mate,", n)+"pets", ",") }
	for _, c := range []struct {
		entity  string
		include []string
		want    api.Errno
	}{
		{"owl", many(12), api.ErrName}, {"person", many(12), api.ErrLarge}, {"person", many(11), api.OK}, {"person", append(many(12), "x"), api.ErrLarge},
		{"person", []string{"mate.mate.mate.mate"}, api.OK}, {"person", []string{"mate.mate.mate.mate.mate"}, api.ErrLarge}, {"person", []string{"x.x.x.x.x"}, api.ErrLarge},
		{"person", []string{"x", "x.x.x.x.x"}, api.ErrName}, {"person", []string{"mate", "x.x.x.x.x", "x"}, api.ErrLarge},
		{"person", []string{""}, api.ErrName}, {"person", []string{"mate", ""}, api.ErrName}, {"person", []string{"mate."}, api.ErrName}, {"person", []string{".mate"}, api.ErrName}, {"person", []string{"name"}, api.ErrName}, {"person", []string{"mate.name"}, api.ErrName}, {"person", []string{"staff"}, api.ErrName}, {"person", []string{"pets.hunts"}, api.ErrName}, {"person", []string{"id"}, api.ErrName},
	} {
		got, err := query.Steps(zoo(t), c.entity, c.include)
		if err != c.want || err != api.OK && len(got) > 0 {
			t.Error(c, got, err)
		}
		if c.entity == "person" {
			if err := query.Check(zoo(t), api.Find{Entity: c.entity, Include: c.include}, nil); err != c.want {
				t.Error(c, err)
			}
		}
	}
}

// Paths tells the relations of all paths of a find, and from where they are read.
func TestPaths(t *testing.T) {
	f := api.Find{Entity: "cat", Where: conds(t, "and(some:fears.hunts(and(equal(up:fears.name,concat(?0,?3)),is:puppy(:fears.rival))),or(equal(:name,'x'),equal(:owner,1)))"), Order: []api.By{{Path: "name"}, {Path: "owner.mate.age"}}, Limit: -1, Include: []string{"owner.tags", "prey"}}
	var got [][2]string
	query.Paths(zoo(t), f, func(entity, path string) { got = append(got, [2]string{entity, path}) })
	want := [][2]string{{"cat", "fears.hunts"}, {"cat", "fears"}, {"cat", "fears.rival"}, {"cat", "owner"}, {"cat", "owner.mate"}, {"cat", "owner.tags"}, {"cat", "prey"}}
	if !same(got, want) {
		t.Error(got)
	}
	f.Order = nil
	f.Where = conds(t, "some:fears.hunts(some:owner.friends(equal(up:owner.id,:mate.id)))")
	f.Include = nil
	got = nil
	query.Paths(zoo(t), f, func(entity, path string) { got = append(got, [2]string{entity, path}) })
	if !same(got, [][2]string{{"cat", "fears.hunts"}, {"cat", "owner.friends"}, {"cat", "owner"}, {"person", "mate"}}) {
		t.Error(got)
	}
	for _, f := range []api.Find{{Entity: "owl"}, {Entity: "cat", Include: []string{"owner", "x"}}, {Entity: "cat", Where: []api.Expr{{Kind: api.XParam, N: -1}}, Include: []string{"owner"}}} {
		query.Paths(zoo(t), f, func(entity, path string) { t.Error(f, entity, path) })
	}
}
