package shards

import (
	"slices"

	"dumbwaiter/api"
)

// Balance returns moves that make the loads of shards more equal.
func Balance(loads []int, homes []int, shards int) ([]api.Place, api.Errno) {
	switch {
	case shards < 1 || shards > api.MaxShards:
		return nil, api.ErrArg
	case len(loads) != len(homes):
		return nil, api.ErrForm
	case len(loads) > api.MaxTenants:
		return nil, api.ErrLarge
	}
	sums := make([]int, shards)
	for i, load := range loads {
		if load < 0 || load > api.MaxInt/api.MaxTenants || homes[i] < 0 || homes[i] >= shards {
			return nil, api.ErrArg
		}
		sums[homes[i]] += load
	}
	now := slices.Clone(homes)
	// Each move takes from the greatest sum more than it adds to the least one can make it: so there is an end.
	for helps(loads, now, sums) {
	}
	var l []api.Place
	for i, home := range homes {
		if now[i] != home {
			l = append(l, api.Place{Tenant: i, Shard: home, To: now[i]})
		}
	}
	return l, api.OK
}

// helps makes the next move that helps, and reports whether there was one.
func helps(loads, homes, sums []int) bool {
	from, to := slices.Index(sums, slices.Max(sums)), slices.Index(sums, slices.Min(sums))
	best, least := -1, sums[from]
	for i, load := range loads {
		if greater := max(sums[from]-load, sums[to]+load); homes[i] == from && greater < least {
			best, least = i, greater
		}
	}
	if best < 0 {
		return false
	}
	homes[best] = to
	sums[from] -= loads[best]
	sums[to] += loads[best]
	return true
}
