package cache_test

import (
	"slices"
	"testing"

	"dumbwaiter/api"
	"dumbwaiter/cache"
	"dumbwaiter/value"
)

// terms are the arguments of Issue.
type terms struct {
	Secret  string
	Tenants []int
	Until   int
}

func (x terms) issue() (api.Token, api.Errno) { return cache.Issue(x.Secret, x.Tenants, x.Until) }

// numbers are so many tenants, the greatest first.
func numbers(n int) []int {
	var l []int
	for i := range n {
		l = append(l, n-i)
	}
	return l
}

// P8.12: what a token is.
func TestIssue(t *testing.T) {
	for _, x := range []struct {
		terms
		tenants []int
	}{
		{terms{"s", nil, 0}, nil},
		{terms{"it's ~", []int{7}, api.MaxMoment}, []int{7}},
		{terms{long(api.MaxText), []int{3, 1, 2, 3, 1, api.MaxInt}, 50}, []int{1, 2, 3, api.MaxInt}},
		{terms{"s", numbers(api.MaxTenants), 1}, func() []int { l := numbers(api.MaxTenants); slices.Sort(l); return l }()},
	} {
		before := clone(x.terms)
		k, err := x.issue()
		must(t, err)
		l := row(text(x.Secret), integer(x.Until))
		for _, n := range x.tenants {
			l = append(l, integer(n))
		}
		expect(t, k, api.Token{Tenants: x.tenants, Until: x.Until, Sum: value.Hash(l)})
		expect(t, x.terms, before)
		want(t, cache.CheckToken(x.Secret, k, 0, x.Until), map[bool]api.Errno{true: api.OK, false: api.ErrTenant}[len(x.tenants) == 0])
		wipe(&x.Tenants)
		expect(t, k.Tenants, x.tenants)
	}
}

// P8.12: the errors of Issue in their order.
func TestErrorsOfIssue(t *testing.T) {
	tryFaults(t, terms{"s", []int{2, 1}, 9}, func(x terms) api.Errno {
		k, err := x.issue()
		if err != api.OK && !same(k, api.Token{}) {
			t.Error(k)
		}
		return err
	}, []fault[terms]{
		{"secret", func(x *terms) { x.Secret = "" }, api.ErrArg},
		{"secret", func(x *terms) { x.Secret = long(api.MaxText + 1) }, api.ErrArg},
		{"secret", func(x *terms) { x.Secret = "a\n" }, api.ErrArg},
		{"secret", func(x *terms) { x.Secret = "é" }, api.ErrArg},
		{"tenants", func(x *terms) { x.Tenants[1] = 0 }, api.ErrArg},
		{"tenants", func(x *terms) { x.Tenants[0] = -1 }, api.ErrArg},
		{"tenants", func(x *terms) { x.Tenants[1] = api.MaxInt + 1 }, api.ErrArg},
		{"until", func(x *terms) { x.Until = -1 }, api.ErrArg},
		{"until", func(x *terms) { x.Until = api.MaxMoment + 1 }, api.ErrArg},
		{"many", func(x *terms) { x.Tenants = append(x.Tenants, numbers(api.MaxTenants-1)...) }, api.ErrLarge},
		// As they are given: equal ones count.
		{"tenants", func(x *terms) { x.Tenants = slices.Repeat([]int{1}, api.MaxTenants+1) }, api.ErrLarge},
	})
	want(t, second(cache.Issue("s", append(numbers(api.MaxTenants), 0), 1)), api.ErrArg)
}

// call is the arguments of CheckToken.
type call struct {
	Secret      string
	Token       api.Token
	Tenant, Now int
}

// P8.12: the errors of CheckToken in their order.
func TestCheckToken(t *testing.T) {
	k, err := cache.Issue("s", []int{3, 5, 8}, 50)
	must(t, err)
	check := func(x call) api.Errno {
		before := clone(x)
		err := cache.CheckToken(x.Secret, x.Token, x.Tenant, x.Now)
		expect(t, x, before)
		return err
	}
	tryFaults(t, call{"s", k, 5, 50}, check, []fault[call]{
		{"secret", func(x *call) { x.Secret = "" }, api.ErrArg},
		{"secret", func(x *call) { x.Secret = "\x7f" }, api.ErrArg},
		{"tenants", func(x *call) { x.Token.Tenants[0] = 0 }, api.ErrArg},
		{"tenants", func(x *call) { x.Token.Tenants[2] = api.MaxInt + 1 }, api.ErrArg},
		{"tenants", func(x *call) { x.Token.Tenants[0] = 6 }, api.ErrArg},
		{"tenants", func(x *call) { x.Token.Tenants[0] = 5 }, api.ErrArg},
		{"until", func(x *call) { x.Token.Until = -1 }, api.ErrArg},
		{"until", func(x *call) { x.Token.Until = api.MaxMoment + 1 }, api.ErrArg},
		{"tenant", func(x *call) { x.Tenant = -1 }, api.ErrArg},
		{"tenant", func(x *call) { x.Tenant = api.MaxInt + 1 }, api.ErrArg},
		{"now", func(x *call) { x.Now = -1 }, api.ErrArg},
		{"now", func(x *call) { x.Now = api.MaxMoment + 1 }, api.ErrArg},
		{"secret", func(x *call) { x.Secret = "S" }, api.ErrSum},
		{"sum", func(x *call) { x.Token.Sum++ }, api.ErrSum},
		{"tenants", func(x *call) { x.Token.Tenants = nil }, api.ErrSum},
		{"tenants", func(x *call) { x.Token.Tenants = []int{3, 5, 8, 9} }, api.ErrSum},
		{"until", func(x *call) { x.Token.Until = 51 }, api.ErrSum},
		{"now", func(x *call) { x.Now = 51 }, api.ErrTenant},
		{"tenant", func(x *call) { x.Tenant = 4 }, api.ErrTenant},
		{"tenant", func(x *call) { x.Tenant = 0 }, api.ErrTenant},
	})
	for _, tenant := range []int{3, 8} {
		want(t, check(call{"s", k, tenant, 0}), api.OK)
	}
	// A token for all permits each tenant, and all of them.
	k, err = cache.Issue("s", nil, 0)
	must(t, err)
	for _, tenant := range []int{0, 1, api.MaxInt} {
		want(t, check(call{"s", k, tenant, 0}), api.OK)
		want(t, check(call{"s", k, tenant, 1}), api.ErrTenant)
	}
	// No limit is asked of a token.
	k = api.Token{Until: 5}
	l := row(text("s"), integer(5))
	for n := range api.MaxTenants + 1 {
		k.Tenants = append(k.Tenants, n+1)
		l = append(l, integer(n+1))
	}
	k.Sum = value.Hash(l)
	want(t, check(call{"s", k, 7, 5}), api.OK)
}
