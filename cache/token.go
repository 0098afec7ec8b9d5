package cache

import (
	"slices"

	"dumbwaiter/api"
	"dumbwaiter/value"
)

// Issue returns a token.
func Issue(secret string, tenants []int, until int) (api.Token, api.Errno) {
	if err := checkTerms(secret, tenants, until); err != api.OK {
		return api.Token{}, err
	}
	if len(tenants) > api.MaxTenants {
		return api.Token{}, api.ErrLarge
	}
	t := api.Token{Tenants: slices.Clone(tenants), Until: until}
	slices.Sort(t.Tenants)
	t.Tenants = slices.Compact(t.Tenants)
	t.Sum = sumOf(secret, t)
	return t, api.OK
}

// CheckToken says whether a token permits calls of a tenant at a moment.
func CheckToken(secret string, t api.Token, tenant, now int) api.Errno {
	isAscending := slices.IsSorted(t.Tenants) && len(slices.Compact(slices.Clone(t.Tenants))) == len(t.Tenants)
	switch {
	case checkTerms(secret, t.Tenants, t.Until) != api.OK, !isAscending, tenant < 0 || tenant > api.MaxInt, !isMoment(now):
		return api.ErrArg
	case t.Sum != sumOf(secret, t):
		return api.ErrSum
	case now > t.Until, len(t.Tenants) > 0 && !slices.Contains(t.Tenants, tenant):
		return api.ErrTenant
	}
	return api.OK
}

// checkTerms checks the arguments that a token is made of.
func checkTerms(secret string, tenants []int, until int) api.Errno {
	isText := value.Check(api.Text, api.Value{Kind: api.Text, S: secret}) == api.OK
	if secret == "" || !isText || slices.ContainsFunc(tenants, func(n int) bool { return !isTenant(n) }) || !isMoment(until) {
		return api.ErrArg
	}
	return api.OK
}

// isTenant reports whether a number can be that of a tenant.
func isTenant(n int) bool { return n >= 1 && n <= api.MaxInt }

// isMoment reports whether a number can be that of a Moment.
func isMoment(n int) bool { return n >= 0 && n <= api.MaxMoment }

// sumOf returns the sum of a token.
func sumOf(secret string, t api.Token) uint64 {
	l := []api.Value{{Kind: api.Text, S: secret}, {Kind: api.Int, N: t.Until}}
	for _, n := range t.Tenants {
		l = append(l, api.Value{Kind: api.Int, N: n})
	}
	return value.Hash(l)
}
