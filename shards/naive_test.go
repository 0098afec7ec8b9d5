package shards_test

import (
	"cmp"
	"reflect"
	"slices"
	"testing"

	"dumbwaiter/api"
	"dumbwaiter/query"
	"dumbwaiter/schema"
	"dumbwaiter/session"
	"dumbwaiter/shards"
)

// naive is one world, with a directory and the copies of tenants that are moved.
type naive struct {
	r        *maker
	world    api.World
	places   []api.Place
	copies   map[int][]api.Object
	families map[string]int // the places of the roots of entities
	sawAll   map[string]int // how often something has happened
}

// at returns the place of a tenant, nil if there is none.
func (n *naive) at(tenant int) *api.Place {
	for i := range n.places {
		if n.places[i].Tenant == tenant {
			return &n.places[i]
		}
	}
	return nil
}

// compare compares objects by their order in a world.
func (n *naive) compare(a, b api.Object) int {
	place := func(o api.Object) int {
		if _, known := n.families[o.Entity]; !known {
			root, _ := schema.Root(n.r.m, o.Entity)
			n.families[o.Entity] = slices.IndexFunc(n.r.m.Entities, func(e api.Entity) bool { return e.Name == root })
		}
		return n.families[o.Entity]
	}
	return cmp.Or(cmp.Compare(place(a), place(b)), cmp.Compare(a.Tenant, b.Tenant), cmp.Compare(a.ID, b.ID))
}

// in returns the place of an object in a list, -1 if it is not there.
func (n *naive) in(l []api.Object, o api.Object) int {
	return slices.IndexFunc(l, func(x api.Object) bool { return n.compare(x, o) == 0 })
}

// move begins to move a tenant.
func (n *naive) move(tenant, to, count int) api.Errno {
	p := n.at(tenant)
	switch {
	case p == nil:
		return api.ErrNone
	case p.State != api.TenantHome:
		return api.ErrState
	case to < 0 || to >= count || to == p.Shard:
		return api.ErrArg
	}
	p.To, p.State = to, api.TenantCopy
	n.copies[tenant] = nil
	return api.OK
}

// abort ends a move.
func (n *naive) abort(tenant int) api.Errno {
	p := n.at(tenant)
	switch {
	case p == nil:
		return api.ErrNone
	case p.State == api.TenantHome || p.State == api.TenantClean:
		return api.ErrState
	}
	p.To, p.State = -1, api.TenantHome
	return api.OK
}

// crash empties the copies.
func (n *naive) crash() {
	for i := range n.places {
		if p := &n.places[i]; p.State == api.TenantFollow || p.State == api.TenantClosed {
			p.State = api.TenantCopy
		}
		n.copies[n.places[i].Tenant] = nil
	}
}

// step makes a step of a move.
func (n *naive) step(tenant int) (bool, api.Errno) {
	p := n.at(tenant)
	if p == nil {
		return false, api.ErrNone
	}
	there := part(n.world, tenant).Objects
	switch p.State {
	case api.TenantHome:
		return false, api.ErrState
	case api.TenantCopy:
		put := 0
		for _, o := range there {
			if n.in(n.copies[tenant], o) < 0 && put < api.MaxPart {
				n.copies[tenant] = append(n.copies[tenant], clone(o))
				put++
			}
		}
		if !slices.ContainsFunc(there, func(o api.Object) bool { return n.in(n.copies[tenant], o) < 0 }) {
			p.State = api.TenantFollow
		}
	case api.TenantFollow:
		if n.follow(tenant, there) == 0 {
			p.State = api.TenantClosed
		}
	case api.TenantClosed:
		p.Shard, p.To, p.State = p.To, p.Shard, api.TenantClean
	case api.TenantClean:
		p.To, p.State = -1, api.TenantHome
		return true, api.OK
	}
	return false, api.OK
}

// follow brings the copy of a tenant up to what has changed, and returns how many objects it has put in or removed.
func (n *naive) follow(tenant int, there []api.Object) int {
	kept := n.copies[tenant]
	var l []api.Object
	for _, o := range there {
		if i := n.in(kept, o); i < 0 || !same(kept[i], o) {
			l = append(l, o)
		}
	}
	for _, o := range kept {
		if n.in(there, o) < 0 {
			l = append(l, o)
		}
	}
	slices.SortFunc(l, n.compare)
	l = l[:min(len(l), api.MaxPart)]
	for _, o := range l {
		kept = slices.DeleteFunc(kept, func(x api.Object) bool { return n.compare(x, o) == 0 })
		if i := n.in(there, o); i >= 0 {
			kept = append(kept, clone(there[i]))
		}
	}
	n.copies[tenant] = kept
	return len(l)
}

// check checks P9.11: where objects are.
func (n *naive) check(t *testing.T, c *shards.Cluster, count int) {
	t.Helper()
	expect(t, c.Places(), n.places)
	expect(t, c.World(), n.world)
	for shard := range count {
		w := worldOf(t, n.r.m, c, shard)
		expect(t, part(w, 0), part(n.world, 0))
		for _, p := range n.places {
			there := part(w, p.Tenant)
			switch {
			case p.Shard == shard:
				expect(t, there, part(n.world, p.Tenant))
			case p.State != api.TenantClean || p.To != shard:
				expect(t, there, api.World{})
			}
		}
	}
}

// shared makes acts for all shards.
func (r *maker) shared(w api.World, count int) []api.Act {
	l := []api.Act{{Kind: api.ActFind, Find: []api.Find{all("book")}}}
	var have cast
	refs, _ := query.Objects(r.m, w, all("book"), nil)
	for _, ref := range refs {
		have = append(have, ref.Entity)
	}
	for range count {
		if len(have) == 0 || r.chance(4) {
			have = append(have, pick(r, "book", "novel"))
			l = append(l, api.Act{Kind: api.ActMake, Entity: have[len(have)-1]}, api.Act{Kind: api.ActSave, A: len(have)})
		}
		if a := r.act(have); a.Kind != api.ActRemove && a.Name != "notes" {
			l = append(l, a)
		}
	}
	return append(l, api.Act{Kind: api.ActCommit})
}

// work lets a tenant, or all shards, do something.
func (n *naive) work(t *testing.T, c *shards.Cluster, tenant int) {
	t.Helper()
	now := n.r.Intn(50)
	acts := n.r.acts(n.world, tenant, 2+n.r.Intn(8))
	if tenant == 0 {
		acts = n.r.shared(n.world, 2+n.r.Intn(8))
	} else if n.r.chance(6) {
		acts = notes(20 + n.r.Intn(60))
	}
	if n.r.chance(8) {
		acts = acts[:len(acts)-1] // without a commit
	}
	wanted, after, err := session.Direct(n.r.m, n.world, tenant, now, nil, acts)
	must(t, err)
	var got []api.Outcome
	if tenant == 0 {
		for shard := range 2 {
			// What acts do on one shard they do on every one.
			there, w, err := session.Direct(n.r.m, worldOf(t, n.r.m, c, shard), 0, now, nil, acts)
			must(t, err)
			expect(t, there, wanted)
			expect(t, part(w, 0), part(after, 0))
		}
		got, err = c.Shared(key(t), now, acts)
	} else {
		got, err = c.Work(key(t), tenant, now, acts)
		if n.at(tenant).State == api.TenantClosed {
			want(t, err, api.ErrMoving)
			return
		}
	}
	must(t, err)
	expect(t, got, wanted)
	if !same(n.world, after) {
		n.sawAll["changed"]++
	}
	n.world = after
}

// ask asks for something at random.
func (n *naive) ask(t *testing.T, c *shards.Cluster) {
	t.Helper()
	f, params := n.r.find(t)
	if f.Where == nil || !slices.ContainsFunc(f.Where, hasParam) {
		params = nil
	}
	wanted, err := query.Answer(n.r.m, n.world, f, params)
	got, e := c.Find(key(t), 0, f, params)
	want(t, e, err)
	expect(t, got, wanted)
	q := api.Total{Entity: f.Entity, Where: f.Where, Aggs: []api.Agg{{Op: api.AggRows}, {Op: api.AggMost, Path: "id"}}, Group: []string{pick(n.r, "id", "version", "tenant")}, Tenant: f.Tenant, Gone: f.Gone}
	wanted, err = query.Totals(n.r.m, n.world, q, params)
	got, e = c.Total(key(t), 0, q, params)
	want(t, e, err)
	expect(t, got, wanted)
}

// hasParam reports whether an expression has a parameter.
func hasParam(e api.Expr) bool {
	return e.Kind == api.XParam || slices.ContainsFunc(e.Args, hasParam)
}

// P9.3 to P9.11: a cluster does what is done with one world, whatever is moved, given up, or crashes in between.
func TestRandomCluster(t *testing.T) {
	sawAll := map[string]int{}
	randomly(t, 40, func(t *testing.T, r *maker) {
		count := 2 + r.Intn(3)
		c, err := shards.New(r.m, count, "s")
		must(t, err)
		n := &naive{r: r, copies: map[int][]api.Object{}, families: map[string]int{}, sawAll: sawAll}
		for tenant := 1; tenant <= tenants; tenant++ {
			n.places = append(n.places, api.Place{Tenant: tenant, Shard: r.Intn(count), To: -1, State: api.TenantHome})
			must(t, c.Add(tenant, n.places[tenant-1].Shard))
		}
		for range 60 {
			tenant := 1 + r.Intn(tenants+r.Intn(2))
			is := n.at(tenant) != nil
			x := r.Intn(20)
			if is && n.at(tenant).State == api.TenantHome && r.chance(3) {
				x = 7
			}
			switch {
			case x < 4 && is:
				n.work(t, c, tenant)
			case x < 6:
				n.work(t, c, 0)
			case x < 8:
				to := r.Intn(count+2) - 1
				want(t, c.Move(tenant, to), n.move(tenant, to, count))
			case x < 16:
				if is {
					sawAll["step"+string(rune('0'+n.at(tenant).State))]++
				}
				home, err := n.step(tenant)
				got, e := c.Step(tenant)
				want(t, e, err)
				expect(t, got, home)
			case x == 16 && r.chance(2):
				want(t, c.Abort(tenant), n.abort(tenant))
			case x == 17 && r.chance(2):
				c.Crash()
				n.crash()
			case x == 18:
				n.ask(t, c)
			}
			n.check(t, c, count)
			if t.Failed() {
				return
			}
		}
	})
	for _, what := range []string{"changed", "step2", "step3", "step4", "step5"} {
		if sawAll[what] < 30 && !testing.Short() {
			t.Error(what, sawAll)
		}
	}
}

// P9.10: a move that is interrupted by crashes at any place ends all the same, and nothing is lost or doubled.
func TestCrashAnywhere(t *testing.T) {
	for place := range 12 {
		c := cluster(t, library(t), 2)
		n := &naive{r: &maker{m: library(t)}, copies: map[int][]api.Object{}, families: map[string]int{}, places: c.Places()}
		fill(t, c, 1, 120)
		fill(t, c, 2, 3)
		n.world = c.World()
		must(t, c.Move(1, 1), n.move(1, 1, 2))
		for i := 0; n.at(1).State != api.TenantHome; i++ {
			if i == place {
				c.Crash()
				n.crash()
			}
			n.check(t, c, 2)
			home, err := n.step(1)
			must(t, err)
			got, err := c.Step(1)
			must(t, err)
			expect(t, got, home)
		}
		n.check(t, c, 2)
		expect(t, n.at(1).Shard, 1)
	}
}

// naiveBalance moves tenants as long as a move helps.
func naiveBalance(loads, homes []int, count int) []api.Place {
	now := slices.Clone(homes)
	sum := func(shard int) int {
		s := 0
		for i, load := range loads {
			if now[i] == shard {
				s += load
			}
		}
		return s
	}
	for {
		from, to := 0, 0
		for shard := range count {
			if sum(shard) > sum(from) {
				from = shard
			}
			if sum(shard) < sum(to) {
				to = shard
			}
		}
		greatest := sum(from)
		best, least := -1, greatest
		for i := range loads {
			if now[i] != from {
				continue
			}
			now[i] = to
			if x := max(sum(from), sum(to)); x < least {
				best, least = i, x
			}
			now[i] = from
		}
		if best < 0 {
			break
		}
		now[best] = to
	}
	var l []api.Place
	for i := range loads {
		if now[i] != homes[i] {
			l = append(l, api.Place{Tenant: i, Shard: homes[i], To: now[i]})
		}
	}
	return l
}

// P9.12: Balance moves what helps most, as long as something helps.
func TestBalance(t *testing.T) {
	randomly(t, 400, func(t *testing.T, r *maker) {
		count := 1 + r.Intn(api.MaxShards)
		most := pick(r, 1, 3, 10, 1000, api.MaxInt/api.MaxTenants)
		var loads, homes []int
		for range r.Intn(25) {
			loads = append(loads, r.Intn(most+1))
			homes = append(homes, min(r.Intn(count), r.Intn(count)))
		}
		given := []any{clone(loads), clone(homes)}
		got, err := shards.Balance(loads, homes, count)
		must(t, err)
		expect(t, got, naiveBalance(loads, homes, count))
		if !reflect.DeepEqual(given, []any{loads, homes}) {
			t.Error("the arguments are changed")
		}
	})
	for _, x := range []struct {
		loads, homes []int
		count        int
		want         []api.Place
	}{
		{[]int{10, 4}, []int{0, 0}, 2, []api.Place{{Tenant: 0, Shard: 0, To: 1}}},
		{[]int{5, 5}, []int{0, 1}, 2, nil},
		{[]int{0, 0, 3}, []int{0, 0, 0}, 2, nil},
		{[]int{1, 1, 1, 1}, []int{2, 2, 2, 2}, 3, []api.Place{{Tenant: 0, Shard: 2, To: 0}, {Tenant: 1, Shard: 2, To: 1}}},
		{[]int{7, 8}, []int{0, 0}, 1, nil},
		{nil, nil, 8, nil},
		{[]int{6, 5, 4}, []int{0, 0, 1}, 2, []api.Place{{Tenant: 1, Shard: 0, To: 1}}},
	} {
		got, err := shards.Balance(x.loads, x.homes, x.count)
		must(t, err)
		expect(t, got, x.want)
	}
}

// shares is the arguments of Balance.
type shares struct {
	Loads, Homes []int
	Shards       int
}

// P9.12: errors of Balance, in their order.
func TestBalanceErrors(t *testing.T) {
	balance := func(x shares) api.Errno {
		l, err := shards.Balance(x.Loads, x.Homes, x.Shards)
		if err != api.OK {
			expect(t, l, []api.Place(nil))
		}
		return err
	}
	most := api.MaxInt / api.MaxTenants
	many := make([]int, api.MaxTenants)
	for i := range many {
		many[i] = most
	}
	want(t, balance(shares{many, make([]int, api.MaxTenants), 8}), api.OK)
	tryFaults(t, shares{many, make([]int, api.MaxTenants), 8}, balance, []fault[shares]{
		{"shards", func(x *shares) { x.Shards = 0 }, api.ErrArg},
		{"shards", func(x *shares) { x.Shards = -1 }, api.ErrArg},
		{"shards", func(x *shares) { x.Shards = api.MaxShards + 1 }, api.ErrArg},
		{"length", func(x *shares) { x.Loads = append(x.Loads, 1) }, api.ErrForm},
		{"length", func(x *shares) { x.Homes = x.Homes[1:] }, api.ErrForm},
		{"length", func(x *shares) { x.Loads, x.Homes = append(x.Loads, 1), append(x.Homes, 1) }, api.ErrLarge},
		{"load", func(x *shares) { x.Loads[7] = -1 }, api.ErrArg},
		{"load", func(x *shares) { x.Loads[0] = most + 1 }, api.ErrArg},
		{"home", func(x *shares) { x.Homes[9] = 8 }, api.ErrArg},
		{"home", func(x *shares) { x.Homes[9] = -1 }, api.ErrArg},
	})
}
