package session_test

import (
	"testing"

	"dumbwaiter/api"
	"dumbwaiter/schema"
	"dumbwaiter/session"
)

// script is a list of acts that has been played by a naive session.
type script struct {
	m      api.Model
	before api.World
	tenant int
	hooks  []api.Hook
	acts   []api.Act
	want   []api.Outcome
	after  api.World
}

// script makes acts for a world, and plays them as the document says.
func (r *maker) script(w api.World, count int) script {
	x := script{m: r.m, before: w, tenant: r.session(), hooks: r.hooks()}
	n := x.naive(api.LoadLazy)
	var a api.Act
	var err api.Errno
	for range count {
		a = r.next(n, a, err)
		out := playNaive(n, a)
		x.acts, x.want = append(x.acts, a), append(x.want, out)
		err = out.Error
	}
	x.after = n.kept
	return x
}

// naive returns a naive session at the beginning of a script.
func (x script) naive(way int) *naive {
	return newNaive(x.m, x.before, x.tenant, 100, way, x.hooks)
}

// playNaive plays an act of any form.
func playNaive(n *naive, a api.Act) api.Outcome {
	switch {
	case a.Kind > api.ActRollback:
		return api.Outcome{Error: api.ErrKind}
	case a.Kind == api.ActFind && len(a.Find) != 1, a.Kind == api.ActFlush && a.A != 0, a.Kind == api.ActSave && a.Name != "":
		return api.Outcome{Error: api.ErrForm}
	}
	return n.play(a)
}

// fail tells what has gone wrong at an act, and all ahead of it.
func (x script) fail(t *testing.T, at int, what ...any) {
	t.Helper()
	text, _ := schema.Text(x.m)
	t.Log(text)
	t.Log(x.before, x.tenant, x.hooks)
	for i, a := range x.acts[:at+1] {
		t.Log(i, a, x.want[i])
	}
	t.Fatal(what...)
}

// P7.1 to P7.8, P7.12, P7.14: Direct, and sessions with each way to load, do what the document says.
func TestPlayAtRandom(t *testing.T) {
	randomly(t, 60, func(t *testing.T, r *maker) {
		w := pick(r, api.World{}, r.world())
		for range 3 {
			x := r.script(w, 60+r.Intn(60))
			before := clone(w)
			got, after, err := session.Direct(x.m, w, x.tenant, 100, x.hooks, x.acts)
			must(t, err)
			for i := range got {
				if !same(got[i], x.want[i]) {
					x.fail(t, i, "direct", got[i])
				}
			}
			expect(t, len(got), len(x.want))
			expect(t, after, x.after)
			expect(t, w, before)
			for way := api.LoadLazy; way <= api.LoadEager; way++ {
				x.try(t, way)
			}
			w = x.after
		}
	})
}

// try plays the acts of a script with a way to load, and compares all that a session tells behind each of them.
func (x script) try(t *testing.T, way int) {
	t.Helper()
	db := storeOf(t, x.m, x.before)
	s, err := session.New(x.m, db, x.tenant, 100, way, x.hooks)
	must(t, err)
	n := x.naive(way)
	for i, a := range x.acts {
		got := session.Play(s, []api.Act{a})
		playNaive(n, a)
		switch {
		case !same(got, x.want[i:i+1]):
			x.fail(t, i, way, "outcome", got)
		case s.Statements() != n.statements:
			x.fail(t, i, way, "statements", s.Statements(), n.statements)
		}
		for h := range n.handles {
			if !n.tells(s, h+1) {
				o, err := s.Object(h + 1)
				x.fail(t, i, way, "object", h+1, s.State(h+1), o, err)
			}
		}
	}
	expect(t, worldOf(t, x.m, db), x.after)
}

// tells reports whether a session tells of a handle what a naive one does.
func (n *naive) tells(s *session.Session, h int) bool {
	x := n.handles[h-1]
	o, err := s.Object(h)
	if s.State(h) != x.stateNow() {
		return false
	}
	if x.state == api.StatePast {
		return err == api.ErrState
	}
	now := api.Object{Entity: x.entity, Tenant: x.tenant, ID: x.id, Version: x.version, Values: x.values}
	for _, to := range x.ones {
		now.Ones = append(now.Ones, idOf(to))
	}
	return err == api.OK && same(o, now)
}
