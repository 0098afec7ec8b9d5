package sql

import (
	"maps"
	"slices"

	"dumbwaiter/api"
	"dumbwaiter/parts"
)

// Sources tells all sources of a statement, also those of selects within others.
func Sources(st api.Statement, tell func(x api.Source)) {
	parts.All(st, func(p parts.Part) {
		if p.Source != nil {
			tell(*p.Source)
		}
	})
}

// Tables returns the names of all tables that a statement names.
func Tables(st api.Statement) []string {
	names := map[string]bool{st.Table: true}
	Sources(st, func(x api.Source) { names[x.Table] = true })
	delete(names, "")
	return slices.Sorted(maps.Keys(names))
}

// isLarge reports whether a statement exceeds the limits of statements.
func isLarge(st api.Statement) bool {
	large := len(st.Params) > api.MaxParams || parts.Exceed(st, api.MaxBig, api.MaxLevels)
	if !large {
		parts.All(st, func(p parts.Part) { large = large || p.Query != nil && isWide(p.Query) })
	}
	return large
}

// isWide reports whether a select has too many sources or items.
func isWide(q *api.Select) bool {
	return len(q.From)+len(q.Joins) > api.MaxSources || len(q.Items) > api.MaxItems
}

// isGrouped reports whether a select is grouped.
func isGrouped(q *api.Select) bool {
	return len(q.Group) > 0 || len(q.Having) > 0 || hasAggregate(parts.Part{Query: q})
}

// hasAggregate reports whether an XAgg that belongs to the same select is within a part.
func hasAggregate(p parts.Part) bool {
	found := false
	p.Inner(func(q parts.Part) {
		found = found || q.Query == nil && (q.Expr != nil && q.Expr.Kind == api.XAgg || hasAggregate(q))
	})
	return found
}

// conjuncts returns the conjuncts of a condition.
func conjuncts(e api.Expr) []api.Expr {
	if !isAnd(e) {
		return []api.Expr{e}
	}
	return append(conjuncts(e.Args[0]), conjuncts(e.Args[1])...)
}

// isAnd reports whether an expression is an OpAnd.
func isAnd(e api.Expr) bool { return e.Kind == api.XOp && e.Op == api.OpAnd }
