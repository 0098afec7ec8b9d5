package cache

import (
	"slices"
	"strconv"

	"dumbwaiter/api"
	"dumbwaiter/parts"
	"dumbwaiter/schema"
	"dumbwaiter/sql"
)

// column is the name of the column that says to whom a row belongs.
const column = "tenant"

// Scope returns a statement that reads and writes rows of one tenant alone.
func Scope(m api.Model, st api.Statement, tenant int) (api.Statement, api.Errno) {
	s, err := schema.Tables(m)
	if err != api.OK {
		return api.Statement{}, err
	}
	if !isTenant(tenant) {
		return api.Statement{}, api.ErrArg
	}
	if err := sql.Check(s, st); err != api.OK {
		return api.Statement{}, err
	}
	x := scope{tenant, tablesOfTenants(s)}
	switch {
	case st.Kind != api.StSelect && !x.tables[st.Table], slices.Contains(st.Columns, column):
		return api.Statement{}, api.ErrTenant
	case isLarge(st):
		return api.Statement{}, api.ErrLarge
	}
	return x.statement(st), api.OK
}

// tablesOfTenants returns the tables in which each row belongs to a tenant.
func tablesOfTenants(s api.Schema) map[string]bool {
	l := map[string]bool{}
	for _, t := range s.Tables {
		l[t.Name] = t.Key[0] == column
	}
	return l
}

// isLarge reports whether a statement is too large to be restricted. (A table with more than MaxItems columns cannot be a source: no table of a model has as many.)
func isLarge(st api.Statement) bool {
	isLong := func(name string) bool { return len(name) > api.MaxTall-2 }
	large := parts.Exceed(st, api.MaxBig/4, api.MaxLevels/2) || st.Kind == api.StUpdate && isLong(st.Name)
	sql.Sources(st, func(x api.Source) { large = large || isLong(x.Name) })
	return large
}

// scope restricts statements to the rows of a tenant.
type scope struct {
	tenant int
	tables map[string]bool // of tenants
}

// statement restricts a statement. Each source that is a table of tenants is restricted by a condition where it stands: the source remains as it is, so that nothing that is said of its columns changes.
func (x scope) statement(st api.Statement) api.Statement {
	st = parts.Rewriter{Query: x.query}.Statement(st)
	switch st.Kind {
	case api.StInsert:
		x.insert(&st)
	case api.StUpdate, api.StDelete:
		st.Where = x.restricted(st.Name, st.Where)
	}
	return st
}

// query restricts the sources of a select. Those of joins are restricted in On, so that with Left rows without a partner of the tenant stay.
func (x scope) query(q api.Select) api.Select {
	for _, y := range q.From {
		if x.tables[y.Table] {
			q.Where = x.restricted(y.Name, q.Where)
		}
	}
	for i, y := range q.Joins {
		if x.tables[y.Source.Table] {
			q.Joins[i].On = x.restricted(y.Source.Name, []api.Expr{y.On})[0]
		}
	}
	return q
}

// restricted returns the condition that a source has rows of the tenant, and one that there may be already.
func (x scope) restricted(source string, conditions []api.Expr) []api.Expr {
	l := []api.Expr{operation(api.OpEqual, api.Expr{Kind: api.XColumn, Source: source, Name: column}, x.number())}
	for _, e := range conditions {
		l[0] = operation(api.OpAnd, l[0], e)
	}
	return l
}

// number returns the tenant as an expression.
func (x scope) number() api.Expr {
	return api.Expr{Kind: api.XValue, Value: api.Value{Kind: api.Int, N: x.tenant}}
}

// operation returns an expression with an operation.
func operation(op int, args ...api.Expr) api.Expr {
	return api.Expr{Kind: api.XOp, Op: op, Args: args}
}

// insert gives the rows of an insert the tenant.
func (x scope) insert(st *api.Statement) {
	st.Columns = append(st.Columns, column)
	for i := range st.Rows {
		st.Rows[i] = append(st.Rows[i], x.number())
	}
	for i := range st.Select {
		q := &st.Select[i]
		q.Items = append(q.Items, api.Item{Name: freeName(q.Items), Expr: x.number()})
	}
}

// freeName returns a name that no item has.
func freeName(l []api.Item) string {
	name := column
	for n := 0; slices.ContainsFunc(l, func(x api.Item) bool { return x.Name == name }); n++ {
		name = column + strconv.Itoa(n)
	}
	return name
}
