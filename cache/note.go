package cache

import (
	"cmp"
	"maps"
	"slices"
	"strings"

	"dumbwaiter/api"
	"dumbwaiter/parts"
	"dumbwaiter/query"
	"dumbwaiter/same"
	"dumbwaiter/schema"
)

// family is what is asked of the family of an entity.
type family struct {
	root   string
	place  int // of the root in the model
	tenant bool
}

// tenantOf returns the tenant that objects of a family have, of a tenant that is asked for.
func (f family) tenantOf(tenant int) int {
	if !f.tenant {
		return 0
	}
	return tenant
}

// tag returns the tag of the objects of a family for a tenant.
func (f family) tag(tenant int) api.Tag {
	return api.Tag{Entity: f.root, Tenant: f.tenantOf(tenant)}
}

// familiesOf returns the families of the entities of a right model.
func familiesOf(m api.Model) map[string]family {
	l := map[string]family{}
	for i, e := range m.Entities {
		f, isBelow := l[e.Parent]
		if !isBelow {
			f = family{e.Name, i, e.Tenant}
		}
		l[e.Name] = f
	}
	return l
}

// Noted returns the notice for the worlds before and after a commit.
func Noted(m api.Model, before, after api.World, number int) (api.Note, api.Errno) {
	for _, w := range []api.World{before, after} {
		if err := schema.CheckWorld(m, w); err != api.OK {
			return api.Note{}, err
		}
	}
	if number < 1 || number > api.MaxInt {
		return api.Note{}, api.ErrArg
	}
	return noted(m, before, after, number), api.OK
}

// noted is Noted for right arguments.
func noted(m api.Model, before, after api.World, number int) api.Note {
	families := familiesOf(m)
	n := api.Note{Number: number, Refs: differing(before.Objects, after.Objects, refOf, same.Object)}
	slices.SortFunc(n.Refs, func(a, b api.Ref) int {
		return cmp.Or(
			cmp.Compare(families[a.Entity].place, families[b.Entity].place), cmp.Compare(a.Tenant, b.Tenant),
			cmp.Compare(a.ID, b.ID), cmp.Compare(a.Entity, b.Entity),
		)
	})
	for _, r := range n.Refs {
		n.Tags = append(n.Tags, families[r.Entity].tag(r.Tenant))
	}
	itself := func(p api.PairOf) api.PairOf { return p }
	for _, p := range differing(before.Pairs, after.Pairs, itself, func(a, b api.PairOf) bool { return a == b }) {
		n.Tags = append(n.Tags, api.Tag{Entity: p.Entity, Relation: p.Relation, Tenant: p.Tenant})
	}
	n.Tags = sorted(n.Tags)
	return n
}

// refOf returns the Ref of an object.
func refOf(o api.Object) api.Ref { return api.Ref{Entity: o.Entity, Tenant: o.Tenant, ID: o.ID} }

// differing returns, in any order, the names of what stands in just one of two lists, or is not the same in both.
func differing[T any, N comparable](a, b []T, nameOf func(x T) N, isSame func(x, y T) bool) []N {
	left := map[N]T{}
	for _, x := range a {
		left[nameOf(x)] = x
	}
	var l []N
	for _, y := range b {
		n := nameOf(y)
		if x, there := left[n]; !there || !isSame(x, y) {
			l = append(l, n)
		}
		delete(left, n)
	}
	return slices.AppendSeq(l, maps.Keys(left))
}

// sorted returns tags in their order, each once.
func sorted(l []api.Tag) []api.Tag {
	slices.SortFunc(l, func(a, b api.Tag) int {
		return cmp.Or(cmp.Compare(a.Entity, b.Entity), cmp.Compare(a.Relation, b.Relation), cmp.Compare(a.Tenant, b.Tenant))
	})
	return slices.Compact(l)
}

// Tags returns what the answer of a find depends on.
func Tags(m api.Model, f api.Find) ([]api.Tag, api.Errno) {
	checked := f
	checked.Where = withoutParams(f.Where)
	if err := query.Check(m, checked, nil); err != api.OK {
		return nil, err
	}
	families := familiesOf(m)
	l := []api.Tag{families[f.Entity].tag(f.Tenant)}
	query.Paths(m, f, func(entity, path string) {
		for _, relation := range strings.Split(path, ".") {
			has, x := relationOf(m, entity, relation)
			l = append(l, families[x.To].tag(f.Tenant))
			if x.Kind == api.RelPairs {
				owner, name, _ := schema.Owner(m, has, relation)
				l = append(l, api.Tag{Entity: owner, Relation: name, Tenant: families[owner].tenantOf(f.Tenant)})
			}
			entity = x.To
		}
	})
	return sorted(l), api.OK
}

// relationOf returns the relation with a name that an entity has, and the entity that has it itself: this one, or one that it is below.
func relationOf(m api.Model, entity, name string) (string, api.Relation) {
	// What an entity is below stands ahead of it.
	for _, e := range slices.Backward(m.Entities) {
		if e.Name != entity {
			continue
		}
		if i := slices.IndexFunc(e.Relations, func(r api.Relation) bool { return r.Name == name }); i >= 0 {
			return entity, e.Relations[i]
		}
		entity = e.Parent
	}
	return "", api.Relation{}
}

// withoutParams returns conditions in which null, which fits everywhere, stands for the parameters.
func withoutParams(l []api.Expr) []api.Expr {
	return parts.Rewriter{Expr: func(e api.Expr) api.Expr {
		if e.N >= 0 && same.Expr(e, api.Expr{Kind: api.XParam, N: e.N}) {
			return api.Expr{Kind: api.XValue}
		}
		return e
	}}.Exprs(l)
}

// Touches reports whether a notice touches tags.
func Touches(n api.Note, tags []api.Tag) bool { return touching(n)(tags) }

// touching returns what reports whether a notice touches tags.
func touching(n api.Note) func(tags []api.Tag) bool {
	told, ofAny := map[api.Tag]bool{}, map[api.Tag]bool{}
	of := func(t api.Tag, tenant int) api.Tag {
		return api.Tag{Entity: t.Entity, Relation: t.Relation, Tenant: tenant}
	}
	for _, t := range n.Tags {
		told[t] = true
		ofAny[of(t, 0)] = true
	}
	return func(tags []api.Tag) bool {
		return slices.ContainsFunc(tags, func(t api.Tag) bool {
			return told[t] || told[of(t, 0)] || t.Tenant == 0 && ofAny[t]
		})
	}
}
