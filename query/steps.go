package query

import (
	"slices"
	"strings"

	"dumbwaiter/api"
)

// Steps returns the steps in which the objects of some paths are loaded.
func Steps(m api.Model, name string, include []string) ([]api.Step, api.Errno) {
	c, e, err := lookup(m, name)
	if err != api.OK {
		return nil, err
	}
	return c.steps(e, include)
}

// steps returns the steps of some paths that are read from an entity.
func (c *catalog) steps(e *entity, include []string) ([]api.Step, api.Errno) {
	if len(include) > api.MaxInclude {
		return nil, api.ErrLarge
	}
	var paths [][]string
	ends := map[string]member{}
	for _, path := range include {
		names := strings.Split(path, ".")
		if len(names) > api.MaxPath {
			return nil, api.ErrLarge
		}
		at := e
		for i, name := range names {
			x := at.members[name]
			if !x.isRelation() {
				return nil, api.ErrName
			}
			at = c.entity(x.slot.To)
			ends[strings.Join(names[:i+1], ".")] = x
			paths = append(paths, names[:i+1])
		}
	}
	slices.SortFunc(paths, slices.Compare[[]string])
	paths = slices.CompactFunc(paths, slices.Equal[[]string])
	return stepsOf(paths, ends), api.OK
}

// stepsOf returns the steps with these paths, which are sorted, so that beginnings stand ahead. ends has the relations at their ends.
func stepsOf(paths [][]string, ends map[string]member) []api.Step {
	var l []api.Step
	numbers := map[string]int{"": -1}
	for i, names := range paths {
		path := strings.Join(names, ".")
		end := ends[path]
		from := numbers[strings.Join(names[:len(names)-1], ".")]
		l = append(l, api.Step{From: from, Relation: end.slot.Name, Entity: end.slot.Entity, To: end.slot.To})
		numbers[path] = i
	}
	return l
}

// Paths tells all paths of relations of a find that is right: the entity from which each one is read, and the path. They are those in Where (without what stands behind the relations), in the order of its parts, then those in Order and Include.
func Paths(m api.Model, f api.Find, tell func(entity, path string)) {
	c, err := catalogOf(m)
	if err != api.OK {
		return
	}
	f.Where = mapped(f.Where, func(x api.Expr) api.Expr {
		// What is told of paths does not depend on parameters.
		return withNulls(x, func(n int) bool { return n >= 0 })
	})
	e, err := checker{catalog: c}.checkFind(f)
	if err != api.OK {
		return
	}
	tellRoute := func(at *entity, r route) {
		if l := r.relations(); len(l) > 0 {
			tell(at.name, strings.Join(mapped(l, func(x member) string { return x.slot.Name }), "."))
		}
	}
	for _, where := range f.Where {
		c.visit(where, &spot{entity: e}, func(x api.Expr, at *spot) {
			tellRoute(at.of(x).entity, c.routeOf(x, at))
		})
	}
	for _, o := range f.Order {
		r, _ := c.toValue(e, o.Path)
		tellRoute(e, r)
	}
	for _, path := range f.Include {
		tell(e.name, path)
	}
}
