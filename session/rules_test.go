package session_test

import (
	"testing"

	"dumbwaiter/api"
	"dumbwaiter/session"
)

// odd makes acts with arguments that often are none.
func (r *maker) odd(n known) api.Act {
	names := []string{"", "x", "id", "tenant", "gone", "name", "mate", "pets", "friends", "guests", "visits", "rival", "home", "home.city", "label", "mate.mate", "mate.name", "owner.mate.mate.mate.mate.name", ".", "..", "mate.", "person", "dog", "\x00"}
	numbers := []int{0, 1, 2, 3, 5, 9, -1, -2, -9, api.MaxInt, api.MaxInt + 1, -api.MaxInt, 1<<63 - 1, -1 << 63}
	values := []api.Value{null, boolean(1), boolean(7), integer(3), integer(api.MaxInt + 1), text("s"), text("\n"), moment(-1), {Kind: 9}, {N: 1}, {Kind: -1, S: "x"}}
	expr := func() api.Expr {
		e := api.Expr{Kind: r.Intn(27) - 1, Op: r.Intn(30), N: pick(r, numbers...), Value: pick(r, values...), Source: pick(r, names...), Name: pick(r, names...)}
		if r.chance(2) {
			e = api.Expr{Kind: pick(r, api.XColumn, api.XValue, api.XParam, api.XSome), Name: e.Name, Value: e.Value}
		}
		return e
	}
	a := r.act(n)
	for range r.Intn(3) {
		switch r.Intn(9) {
		case 0:
			a.Kind = r.Intn(20) - 1
		case 1:
			a.A = pick(r, numbers...)
		case 2:
			a.B = pick(r, numbers...)
		case 3:
			a.N = pick(r, numbers...)
		case 4:
			a.Entity = pick(r, names...)
		case 5:
			a.Name = pick(r, names...)
		case 6:
			a.Value = pick(r, values...)
		case 7:
			a.Params = append(a.Params, pick(r, values...))
		case 8:
			f := api.Find{Entity: pick(r, names...), Limit: pick(r, numbers...), Offset: pick(r, numbers...), Tenant: pick(r, numbers...), Include: []string{pick(r, names...)}}
			if r.chance(2) {
				f.Where = []api.Expr{{Kind: api.XOp, Op: r.Intn(30), Args: []api.Expr{expr(), expr()}}, expr()}[r.Intn(2):]
			}
			if r.chance(2) {
				f.Order = []api.By{{Path: pick(r, names...)}}
			}
			a = api.Act{Kind: api.ActFind, Find: []api.Find{f}, Params: []api.Value{pick(r, values...)}}
		}
	}
	return a
}

// Z1, Z3: whatever is asked, nothing panics, and what has an error gives nothing else.
func TestOddArguments(t *testing.T) {
	randomly(t, 60, func(t *testing.T, r *maker) {
		w := r.world()
		tenant, hooks := r.session(), r.hooks()
		var acts []api.Act
		db := storeOf(t, r.m, w)
		p := parties(t, r.m, db, []int{tenant}, 1+r.Intn(3), hooks)[0]
		var want []api.Outcome
		for range 150 {
			a := r.odd(p)
			out := p.play(a)
			if out.Error != api.OK && (len(out.Handles) > 0 || out.Value != null) {
				t.Fatal(a, out)
			}
			acts, want = append(acts, a), append(want, out)
		}
		got, after, err := session.Direct(r.m, w, tenant, 100, hooks, acts)
		must(t, err)
		expect(t, got, want)
		expect(t, after, worldOf(t, r.m, db))
		for _, f := range []func(h *api.Hook){
			func(h *api.Hook) { h.Entity = "" }, func(h *api.Hook) { h.Slot = "\x00" }, func(h *api.Hook) { h.When = -1 },
			func(h *api.Hook) { h.Set = make([]api.Expr, 3) }, func(h *api.Hook) { h.Refuse = []api.Expr{{Kind: api.XExists, Sub: []api.Select{{}}}} },
		} {
			h := api.Hook{Entity: r.entity(), When: api.HookSave, Slot: "name", Set: exprs(t, ":name")}
			f(&h)
			if session.CheckHooks(r.m, []api.Hook{h}) == api.OK {
				t.Error(h)
			}
		}
	})
}
