package cache_test

import (
	"cmp"
	"reflect"
	"slices"
	"strings"
	"testing"

	"dumbwaiter/api"
	"dumbwaiter/cache"
	"dumbwaiter/query"
	"dumbwaiter/schema"
)

// tagOf is the tag of the family of an entity, or of the pairs of one of its relations, for a tenant.
func (r *maker) tagOf(entity, relation string, tenant int) api.Tag {
	root, _ := schema.Root(r.m, entity)
	if root == "book" {
		tenant = 0
	}
	if relation == "" {
		entity = root
	}
	return api.Tag{Entity: entity, Relation: relation, Tenant: tenant}
}

// inOrder are tags in their order, each once.
func inOrder(l []api.Tag) []api.Tag {
	slices.SortFunc(l, func(a, b api.Tag) int {
		return cmp.Or(strings.Compare(a.Entity, b.Entity), strings.Compare(a.Relation, b.Relation), a.Tenant-b.Tenant)
	})
	return slices.Compact(l)
}

// plainNote is Noted as P8.1 says it.
func (r *maker) plainNote(before, after api.World, number int) api.Note {
	n := api.Note{Number: number}
	add := func(a, b api.World) {
		for _, o := range a.Objects {
			isThere := slices.ContainsFunc(b.Objects, func(x api.Object) bool { return same(x, o) })
			if !isThere && !slices.Contains(n.Refs, refOf(o)) {
				n.Refs = append(n.Refs, refOf(o))
				n.Tags = append(n.Tags, r.tagOf(o.Entity, "", o.Tenant))
			}
		}
		for _, p := range a.Pairs {
			if !slices.Contains(b.Pairs, p) {
				n.Tags = append(n.Tags, api.Tag{Entity: p.Entity, Relation: p.Relation, Tenant: p.Tenant})
			}
		}
	}
	add(before, after)
	add(after, before)
	isNote := func(entity string) int {
		if r.isOf(entity, "note") {
			return 1
		}
		return 0
	}
	slices.SortFunc(n.Refs, func(a, b api.Ref) int {
		return cmp.Or(isNote(a.Entity)-isNote(b.Entity), a.Tenant-b.Tenant, a.ID-b.ID, strings.Compare(a.Entity, b.Entity))
	})
	n.Tags = inOrder(n.Tags)
	return n
}

// P8.1: Noted is what the document says.
func TestNotedAtRandom(t *testing.T) {
	changes := 0
	randomly(t, 25, func(t *testing.T, r *maker) {
		w := r.world()
		for number := 1; number <= 10; number++ {
			v := r.next(w, pick(r, 0, 0, 1, 2, 3), 1+r.Intn(6))
			if r.chance(10) {
				v = r.world()
			}
			before := clone([]api.World{w, v})
			n, err := cache.Noted(r.m, w, v, number)
			must(t, err)
			expect(t, n, r.plainNote(w, v, number))
			expect(t, []api.World{w, v}, before)
			changes += len(n.Refs)
			w = v
		}
	})
	if changes < 200 && !testing.Short() {
		t.Error("too little has changed", changes)
	}
}

// plainTags is Tags as P8.2 says it.
func (r *maker) plainTags(f api.Find) []api.Tag {
	l := []api.Tag{r.tagOf(f.Entity, "", f.Tenant)}
	// follow adds the relations at the beginning of a path, and returns the entity to which they lead.
	follow := func(entity, path string) string {
		for _, name := range strings.Split(path, ".") {
			relations, _ := schema.Relations(r.m, entity)
			i := slices.IndexFunc(relations, func(x api.Relation) bool { return x.Name == name })
			if i < 0 {
				break
			}
			entity = relations[i].To
			l = append(l, r.tagOf(entity, "", f.Tenant))
			switch name {
			case "liked":
				l = append(l, r.tagOf("note", "likes", f.Tenant))
			case "likes", "about":
				l = append(l, r.tagOf("note", name, f.Tenant))
			case "near", "same":
				l = append(l, r.tagOf("book", name, 0))
			}
		}
		return entity
	}
	var visit func(e api.Expr, at, outer string)
	visit = func(e api.Expr, at, outer string) {
		switch e.Kind {
		case api.XColumn:
			if e.Source == "up" {
				at = outer
			}
			follow(at, e.Name)
		case api.XIs:
			follow(at, e.Source)
		case api.XSome, api.XEvery, api.XMany:
			at, outer = follow(at, e.Name), at
		}
		for _, arg := range e.Args {
			visit(arg, at, outer)
		}
	}
	for _, e := range f.Where {
		visit(e, f.Entity, "")
	}
	for _, o := range f.Order {
		follow(f.Entity, o.Path)
	}
	for _, path := range f.Include {
		follow(f.Entity, path)
	}
	return inOrder(l)
}

// told is what a find tells of a world: its answer, and the objects that Include reaches.
func (r *maker) told(t *testing.T, w api.World, f api.Find, params []api.Value) []any {
	t.Helper()
	rows, err := query.Answer(r.m, w, f, params)
	must(t, err)
	refs, err := query.Objects(r.m, w, f, params)
	must(t, err)
	seen, err := query.Seen(r.m, w, f.Tenant, f.Gone)
	must(t, err)
	l := []any{rows}
	for _, path := range f.Include {
		at := refs
		for _, name := range strings.Split(path, ".") {
			var next []api.Ref
			for _, ref := range at {
				// What one of them has not, another one below can have: here all have the same relations.
				more, err := query.Related(r.m, seen, ref, name)
				must(t, err)
				next = append(next, more...)
			}
			var objects []api.Object
			for _, ref := range next {
				i := slices.IndexFunc(w.Objects, func(o api.Object) bool { return refOf(o) == ref })
				objects = append(objects, w.Objects[i])
			}
			l = append(l, objects)
			at = next
		}
	}
	return l
}

// P8.2, P8.3: Tags are what the document says, and a commit that changes an answer touches them.
func TestTagsAtRandom(t *testing.T) {
	differ, still := 0, 0
	randomly(t, 25, func(t *testing.T, r *maker) {
		w := r.world()
		for range 8 {
			v := r.next(w, pick(r, 0, 0, 1, 2, 3), 1+r.Intn(4))
			n, err := cache.Noted(r.m, w, v, 1)
			must(t, err)
			for range 15 {
				f, params := r.find(t)
				before := clone(f)
				tags, err := cache.Tags(r.m, f)
				if err != api.OK {
					s, _ := query.Text(f)
					t.Fatal(s, err)
				}
				expect(t, tags, r.plainTags(f))
				expect(t, f, before)
				touches := cache.Touches(n, tags)
				if touches && !r.chance(5) {
					continue
				}
				isSame := reflect.DeepEqual(r.told(t, w, f, params), r.told(t, v, f, params))
				switch {
				case !isSame && !touches:
					t.Fatal(f, params, n, tags, w, v)
				case !isSame:
					differ++
				case !touches:
					still++
				}
			}
			w = v
		}
	})
	if !testing.Short() && (differ < 20 || still < 200) {
		t.Error("too little was seen", differ, still)
	}
}
