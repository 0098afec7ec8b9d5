package cache

import (
	"maps"
	"slices"

	"dumbwaiter/api"
	"dumbwaiter/query"
	"dumbwaiter/schema"
)

// Part returns the objects and pairs of a world that a tenant has, and those without a tenant.
func Part(m api.Model, w api.World, tenant int) (api.World, api.Errno) {
	part, err := query.Seen(m, w, tenant, true)
	if err == api.OK && !isTenant(tenant) {
		err = api.ErrArg
	}
	if err != api.OK {
		return api.World{}, err
	}
	return part, api.OK
}

// Tenants returns the tenants of the objects of a world.
func Tenants(m api.Model, w api.World) ([]int, api.Errno) {
	if err := schema.CheckWorld(m, w); err != api.OK {
		return nil, err
	}
	tenants := map[int]bool{}
	for _, o := range w.Objects {
		tenants[o.Tenant] = true
	}
	delete(tenants, 0)
	return slices.Sorted(maps.Keys(tenants)), api.OK
}
