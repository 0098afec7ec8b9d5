package query_test

import (
	"testing"

	"dumbwaiter/api"
	"dumbwaiter/query"
	"dumbwaiter/schema"
	"dumbwaiter/sql"
)

// tables are the schema of a model and the data of a world.
func tables(t testing.TB, m api.Model, w api.World) (api.Schema, api.Data) {
	t.Helper()
	s, err := schema.Tables(m)
	d, e := schema.Rows(m, w)
	must(t, err, e)
	return s, d
}

// ask is sql.Answer, also of what is printed in a dialect and parsed.
func ask(t testing.TB, s api.Schema, d api.Data, st api.Statement, params []api.Value, dialect int) [][]api.Value {
	t.Helper()
	must(t, sql.Check(s, st))
	rows, err := sql.Answer(s, d, st, params)
	must(t, err)
	if dialect == 0 {
		return rows
	}
	text, err := sql.Print(s, st, dialect)
	must(t, err)
	again, err := sql.Parse(s, text, dialect, st.Params)
	must(t, err)
	other, err := sql.Answer(s, d, again, params)
	must(t, err)
	if !same(rows, other) {
		t.Error(text, rows, other)
	}
	return rows
}

// P5.9, P5.12, P5.13, P5.3, P5.6: finds at random have the objects and rows that the document says, compiled and in dialects, too.
func TestRandomFinds(t *testing.T) {
	found, all, heavy := 0, 0, 0
	randomly(t, 1000, func(t *testing.T, r *maker) {
		w := r.world(8)
		s, d := tables(t, r.m, w)
		for range 6 {
			f := r.find()
			if err := query.Check(r.m, f, paramKinds); err == api.ErrLarge {
				heavy++
				continue
			} else if err != api.OK {
				t.Error(f, err)
				return
			}
			all++
			want := naiveAnswer(r.m, w, f, r.params)
			got, err := query.Answer(r.m, w, f, r.params)
			if err != api.OK || !same(got, want) {
				text, _ := query.Text(f)
				t.Error(text, err, "got", got, "want", want)
			}
			refs, err := query.Objects(r.m, w, f, r.params)
			if err != api.OK || len(refs) != len(want) {
				t.Error(refs, err)
				return
			}
			for i, o := range refs {
				if want[i][0].S != o.Entity || want[i][1].N != o.Tenant || want[i][2].N != o.ID {
					t.Error(o, want[i])
				}
			}
			st, err := query.Compile(r.m, f, paramKinds)
			must(t, err)
			if rows := ask(t, s, d, st, r.params, r.Intn(4)); !same(rows, want) {
				text, _ := query.Text(f)
				t.Error(text, "compiled", rows, "want", want)
			}
			if len(want) > 0 {
				found++
			}
		}
	})
	t.Log(found, "of", all, "have rows", heavy, "are too heavy")
}

// P5.15, P5.16: totals at random have the rows that the document says, compiled and in dialects, too.
func TestRandomTotals(t *testing.T) {
	found, all := 0, 0
	randomly(t, 600, func(t *testing.T, r *maker) {
		w := r.world(8)
		s, d := tables(t, r.m, w)
		for range 6 {
			x := r.total()
			if err := query.CheckTotal(r.m, x, paramKinds); err == api.ErrLarge {
				continue
			} else if err != api.OK {
				t.Error(x, err)
				return
			}
			all++
			want := naiveTotals(r.m, w, x, r.params)
			got, err := query.Totals(r.m, w, x, r.params)
			if err != api.OK || !same(got, want) {
				t.Error(x, err, "got", got, "want", want)
			}
			st, err := query.CompileTotal(r.m, x, paramKinds)
			must(t, err)
			if rows := ask(t, s, d, st, r.params, r.Intn(4)); !same(rows, want) {
				t.Error(x, "compiled", rows, "want", want)
			}
			if len(want) > 0 {
				found++
			}
		}
	})
	t.Log(found, "of", all, "have rows")
}
