package cache_test

import (
	"slices"
	"testing"

	"dumbwaiter/api"
	"dumbwaiter/cache"
	"dumbwaiter/parts"
	"dumbwaiter/schema"
	"dumbwaiter/sql"
)

// isOfTenants reports whether a table is one of tenants.
func isOfTenants(s api.Schema, table string) bool {
	i := slices.IndexFunc(s.Tables, func(x api.Table) bool { return x.Name == table })
	return i >= 0 && s.Tables[i].Key[0] == "tenant"
}

// parted parts the rows of tables of tenants: those of a tenant (with all rows of other tables), and the others.
func parted(s api.Schema, d api.Data, tenant int) (own, others api.Data) {
	for i, x := range d.Tables {
		own.Tables = append(own.Tables, api.TableRows{Table: x.Table})
		others.Tables = append(others.Tables, api.TableRows{Table: x.Table})
		for _, r := range x.Rows {
			if !isOfTenants(s, x.Table) || r[0].N == tenant {
				own.Tables[i].Rows = append(own.Tables[i].Rows, r)
			} else {
				others.Tables[i].Rows = append(others.Tables[i].Rows, r)
			}
		}
	}
	return own, others
}

// defaulting is the schema in which columns named tenant have a Default.
func defaulting(s api.Schema, tenant int) api.Schema {
	s = clone(s)
	for i := range s.Tables {
		if c := &s.Tables[i].Columns[0]; c.Name == "tenant" {
			c.Default = integer(tenant)
		}
	}
	return s
}

// tryScope checks that a statement that Scope has made for a tenant does what the statement would do if there were only the rows of this tenant. It reports whether that has rows, or changes some.
func tryScope(t *testing.T, m api.Model, d api.Data, st, scoped api.Statement, params []api.Value, tenant int) bool {
	t.Helper()
	s := tables(t, m)
	own, others := parted(s, d, tenant)
	if st.Kind == api.StSelect {
		wanted, err := sql.Answer(s, own, st, params)
		must(t, err)
		got, err := sql.Answer(s, d, scoped, params)
		must(t, err)
		expect(t, got, wanted)
		return len(got) > 0
	}
	// An insert of the statement itself gives the rows the Default.
	wanted, wantedCount, wantedErr := sql.Effect(defaulting(s, tenant), own, st, params)
	got, count, err := sql.Effect(s, d, scoped, params)
	if err != wantedErr || count != wantedCount {
		t.Error(err, count, "want", wantedErr, wantedCount)
	}
	if err != api.OK {
		return false
	}
	gotOwn, gotOthers := parted(s, got, tenant)
	expect(t, gotOwn, wanted)
	expect(t, gotOthers, others)
	return count > 0
}

// P8.13: what Scope makes of statements at random.
func TestScopeAtRandom(t *testing.T) {
	effective := map[int]int{}
	refused := 0
	randomly(t, 25, func(t *testing.T, r *maker) {
		w := r.world()
		d, err := schema.Rows(r.m, w)
		must(t, err)
		s := tables(t, r.m)
		for range 150 {
			st := r.statement(t)
			before := clone(st)
			tenant := 1 + r.Intn(tenants)
			scoped, err := cache.Scope(r.m, st, tenant)
			expect(t, st, before)
			isRefused := st.Kind != api.StSelect && !isOfTenants(s, st.Table) || slices.Contains(st.Columns, "tenant")
			if isRefused {
				want(t, err, api.ErrTenant)
				refused++
				continue
			}
			if parts.Exceed(st, api.MaxBig/4, api.MaxLevels/2) {
				want(t, err, api.ErrLarge)
				continue
			}
			must(t, err, sql.Check(s, scoped))
			if tryScope(t, r.m, d, st, scoped, row(r.value(api.Int), r.value(api.Text)), tenant) {
				effective[st.Kind]++
			}
			if t.Failed() {
				text, _ := sql.Print(s, st, api.DialectPlain)
				more, _ := sql.Print(s, scoped, api.DialectPlain)
				t.Log(tenant, text, more, w)
				return
			}
		}
	})
	for kind := api.StSelect; kind <= api.StDelete; kind++ {
		if effective[kind] < 30 && !testing.Short() {
			t.Error("too little has an effect", effective)
		}
	}
}
