package sql_test

import (
	"testing"

	"dumbwaiter/api"
	"dumbwaiter/sql"
)

// P4.4 to P4.7: Check accepts statements that are made by its rules, and their rows and effects are those of the naive way.
func TestStatementsAtRandom(t *testing.T) {
	s := shop(t)
	counts := map[api.Errno]int{}
	full := 0
	for seed := range 6000 {
		st, d, params := made(s, seed)
		if err := sql.Check(s, st); err != api.OK {
			t.Fatal(seed, err, show(t, st))
		}
		n := naive{s, d, params}
		if st.Kind == api.StSelect {
			got, err := sql.Answer(s, d, st, params)
			want := n.query(st.Select[0], nil)
			if err != api.OK || !same(got, want) {
				t.Fatal(seed, err, got, want, show(t, st))
			}
			if len(got) > 0 {
				full++
			}
			checkBound(t, st, d, params)
			continue
		}
		a := filled(t, d).Begin()
		changes := n.changes(st)
		want := a.Batch(changes)
		got, count, err := sql.Effect(s, d, st, params)
		if err != want || err == api.OK && count != len(changes) {
			t.Fatal(seed, err, want, show(t, st))
		}
		if after, _ := a.Data(); err == api.OK && !same(got, after) {
			t.Fatal(seed, got, after, show(t, st))
		}
		counts[err]++
	}
	t.Log(full, counts)
	if full < 900 || counts[api.OK] < 1000 || counts[api.ErrNull] < 100 || counts[api.ErrKey] < 100 || counts[api.ErrRef] < 100 {
		t.Error(full, counts)
	}
}

// checkBound checks that a statement with values in the place of parameters has the same rows (P4.8).
func checkBound(t *testing.T, st api.Statement, d api.Data, params []api.Value) {
	t.Helper()
	s := shop(t)
	bound, err := sql.Bind(s, st, params)
	if err != api.OK || len(bound.Params) > 0 || sql.Check(s, bound) != api.OK {
		t.Fatal(err, show(t, st))
	}
	got, err := sql.Answer(s, d, bound, nil)
	if want, _ := sql.Answer(s, d, st, params); err != api.OK || !same(got, want) {
		t.Fatal(err, got, want, show(t, st))
	}
}

// show is the text of a statement, for messages.
func show(t *testing.T, st api.Statement) string {
	text, _ := sql.Print(shop(t), st, api.DialectPlain)
	return text
}
