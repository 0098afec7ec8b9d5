package sql

import (
	"strconv"
	"strings"

	"dumbwaiter/api"
	"dumbwaiter/parts"
)

// Plan returns how the sources of a statement are read.
func Plan(s api.Schema, st api.Statement) ([]api.Access, api.Errno) {
	l, err := planned(s, st)
	if err != api.OK {
		return nil, err
	}
	return mapped(l, func(x access) api.Access { return x.Access }), api.OK
}

// Explain returns how the sources of a statement are read, as a text.
func Explain(s api.Schema, st api.Statement) (string, api.Errno) {
	l, err := planned(s, st)
	if err != api.OK {
		return "", err
	}
	var b strings.Builder
	for _, x := range l {
		b.WriteString(x.text() + "\n")
	}
	return b.String(), api.OK
}

// planned returns the accesses of a statement, if Check accepts it.
func planned(s api.Schema, st api.Statement) ([]access, api.Errno) {
	if err := Check(s, st); err != api.OK {
		return nil, err
	}
	return accesses(tablesOf(s), st), api.OK
}

// access is how a table is read.
type access struct {
	api.Access
	table  *api.Table
	values []api.Expr // of the columns of the Key, or of the first ones of the index
}

// text returns an access in words.
func (x access) text() string {
	switch x.Way {
	case api.ByKey:
		return "key " + x.Source + " " + x.table.Name
	case api.ByIndex:
		return "index " + x.Source + " " + x.table.Name + " " + x.Index + " " + strconv.Itoa(x.Count)
	}
	return "scan " + x.Source + " " + x.table.Name
}

// accesses returns how the tables are read that are sources of a right select, or of which a right statement changes rows.
func accesses(tables map[string]*api.Table, st api.Statement) []access {
	if st.Kind == api.StUpdate || st.Kind == api.StDelete {
		return []access{accessOf(st.Name, tables[st.Table], st.Where)}
	}
	var l []access
	for _, q := range st.Select {
		for _, x := range sourcesOf(q) {
			if x.Table != "" {
				l = append(l, accessOf(x.Name, tables[x.Table], q.Where))
			}
		}
	}
	return l
}

// sourcesOf returns the sources of a select in order.
func sourcesOf(q api.Select) []api.Source {
	return append(mapped(q.From, func(x api.Source) api.Source { return x }), mapped(q.Joins, func(x api.Join) api.Source { return x.Source })...)
}

// accessOf returns how a table that is a source is read with a condition.
func accessOf(source string, t *api.Table, where []api.Expr) access {
	bounds := boundsOf(source, where)
	x := access{Access: api.Access{Source: source, Way: api.ByScan}, table: t}
	if values := boundsOfFirst(bounds, t.Key); len(values) == len(t.Key) {
		x.Way, x.values = api.ByKey, values
		return x
	}
	for _, y := range t.Indexes {
		if values := boundsOfFirst(bounds, y.Columns); len(values) > x.Count {
			x.Way, x.Index, x.Count, x.values = api.ByIndex, y.Name, len(values), values
		}
	}
	return x
}

// boundsOfFirst returns the values to which the first of some columns are bound.
func boundsOfFirst(bounds map[string]api.Expr, columns []string) []api.Expr {
	var l []api.Expr
	for _, name := range columns {
		e, isBound := bounds[name]
		if !isBound {
			return l
		}
		l = append(l, e)
	}
	return l
}

// boundsOf returns the bounds of a source, with the constants to which they are bound first.
func boundsOf(source string, where []api.Expr) map[string]api.Expr {
	bounds := map[string]api.Expr{}
	bind := func(column, e api.Expr) {
		_, isBound := bounds[column.Name]
		if column.Kind == api.XColumn && column.Source == source && isConstant(e) && !isBound {
			bounds[column.Name] = e
		}
	}
	for _, x := range where {
		for _, e := range conjuncts(x) {
			if e.Kind == api.XOp && e.Op == api.OpEqual {
				bind(e.Args[0], e.Args[1])
				bind(e.Args[1], e.Args[0])
			}
		}
	}
	return bounds
}

// isConstant reports whether an expression is a constant.
func isConstant(e api.Expr) bool {
	constant := true
	parts.Part{Expr: &e}.Walk(func(p parts.Part) bool {
		if p.Expr == nil || p.Expr.Kind < api.XValue || p.Expr.Kind > api.XIn || p.Expr.Kind == api.XColumn {
			constant = false
		}
		return constant
	})
	return constant
}
