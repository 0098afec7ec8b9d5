package cache_test

import (
	"testing"

	"dumbwaiter/api"
	"dumbwaiter/cache"
)

// P8.14: the part of a tenant, and the tenants of a world.
func TestPart(t *testing.T) {
	m := library(t)
	w := shelf()
	w.Objects[0].Gone, w.Objects[4].Tenant, w.Pairs[2].Tenant = moment(5), api.MaxInt, api.MaxInt
	w.Pairs = append([]api.PairOf{{Entity: "book", Relation: "near", Left: 1, Right: 2}}, w.Pairs...)
	before := clone(w)
	for tenant, want := range map[int]api.World{
		1:          {Objects: w.Objects[:4], Pairs: w.Pairs[:3]},
		2:          {Objects: w.Objects[:2], Pairs: w.Pairs[:1]},
		api.MaxInt: {Objects: append(w.Objects[:2:2], w.Objects[4]), Pairs: append(w.Pairs[:1:1], w.Pairs[3])},
	} {
		got, err := cache.Part(m, w, tenant)
		must(t, err)
		expect(t, got, want)
		wipe(&got)
		expect(t, w, before)
	}
	l, err := cache.Tenants(m, w)
	must(t, err)
	expect(t, l, []int{1, api.MaxInt})
	l, err = cache.Tenants(m, api.World{Objects: w.Objects[:2]})
	must(t, err)
	expect(t, l, []int{})
}

// P8.14: the errors of Part and Tenants in their order.
func TestErrorsOfPart(t *testing.T) {
	type args struct {
		M      api.Model
		W      api.World
		Tenant int
	}
	faults := []fault[args]{
		{"m", func(x *args) { x.M.Entities[0].Name = "A" }, api.ErrName},
		{"w", func(x *args) { x.W.Objects[4].Tenant = 0 }, api.ErrArg},
		{"w", func(x *args) { x.W.Objects[4].Ones[0] = 7 }, api.ErrRef},
		{"tenant", func(x *args) { x.Tenant = 0 }, api.ErrArg},
		{"tenant", func(x *args) { x.Tenant = -1 }, api.ErrArg},
		{"tenant", func(x *args) { x.Tenant = api.MaxInt + 1 }, api.ErrArg},
	}
	base := args{library(t), shelf(), 1}
	tryFaults(t, base, func(x args) api.Errno {
		w, err := cache.Part(x.M, x.W, x.Tenant)
		if err != api.OK && !same(w, api.World{}) {
			t.Error(w)
		}
		return err
	}, faults)
	tryFaults(t, base, func(x args) api.Errno {
		l, err := cache.Tenants(x.M, x.W)
		if err != api.OK && len(l) > 0 {
			t.Error(l)
		}
		return err
	}, faults[:3])
}
