package sql

import (
	"maps"
	"slices"

	"dumbwaiter/api"
)

// part is a part of a statement (P4.1): just one of its fields is set.
type part struct {
	expr   *api.Expr
	query  *api.Select
	source *api.Source
	item   *api.Item
	order  *api.Order
}

// outermost calls visit for the parts of a statement that are within no other one.
func outermost(st api.Statement, visit func(p part)) {
	visitSelects(st.Select, visit)
	for _, row := range st.Rows {
		visitExprs(row, visit)
	}
	visitExprs(st.Sets, visit)
	visitExprs(st.Where, visit)
}

// inner calls visit for the parts that are directly within a part.
func (p part) inner(visit func(p part)) {
	switch {
	case p.expr != nil:
		visitExprs(p.expr.Args, visit)
		visitExprs(p.expr.Group, visit)
		visitOrders(p.expr.Order, visit)
		visitSelects(p.expr.Sub, visit)
	case p.query != nil:
		visitInnerOfSelect(p.query, visit)
	case p.source != nil:
		visitSelects(p.source.Sub, visit)
	case p.item != nil:
		visit(part{expr: &p.item.Expr})
	default:
		visit(part{expr: &p.order.Expr})
	}
}

// visitInnerOfSelect calls visit for the parts that are directly within a select.
func visitInnerOfSelect(q *api.Select, visit func(p part)) {
	for i := range q.Items {
		visit(part{item: &q.Items[i]})
	}
	for i := range q.From {
		visit(part{source: &q.From[i]})
	}
	for i := range q.Joins {
		visit(part{source: &q.Joins[i].Source})
		visit(part{expr: &q.Joins[i].On})
	}
	visitExprs(q.Where, visit)
	visitExprs(q.Group, visit)
	visitExprs(q.Having, visit)
	visitOrders(q.Order, visit)
}

func visitExprs(l []api.Expr, visit func(p part)) {
	for i := range l {
		visit(part{expr: &l[i]})
	}
}

func visitOrders(l []api.Order, visit func(p part)) {
	for i := range l {
		visit(part{order: &l[i]})
	}
}

func visitSelects(l []api.Select, visit func(p part)) {
	for i := range l {
		visit(part{query: &l[i]})
	}
}

// walk calls visit for a part and all parts within it for which visit returns true on the way.
func (p part) walk(visit func(p part) bool) {
	if visit(p) {
		p.inner(func(q part) { q.walk(visit) })
	}
}

// Sources tells all sources of a statement, also those of selects within others.
func Sources(st api.Statement, tell func(x api.Source)) {
	outermost(st, func(p part) {
		p.walk(func(q part) bool {
			if q.source != nil {
				tell(*q.source)
			}
			return true
		})
	})
}

// Tables returns the names of all tables that a statement names.
func Tables(st api.Statement) []string {
	names := map[string]bool{st.Table: true}
	Sources(st, func(x api.Source) { names[x.Table] = true })
	delete(names, "")
	return slices.Sorted(maps.Keys(names))
}

// isLarge reports whether a statement exceeds the limits of statements.
func isLarge(st api.Statement) bool {
	m := measure{left: api.MaxBig, large: len(st.Params) > api.MaxParams}
	outermost(st, func(p part) { m.add(p, 1) })
	return m.large
}

// measure counts parts until a limit is exceeded.
type measure struct {
	left  int
	large bool
}

// add counts a part at a level, and those within it. Once it is known that a limit is exceeded it goes no deeper: statements that were read can have any number of levels.
func (m *measure) add(p part, level int) {
	m.left--
	if m.left < 0 || level > api.MaxLevels || p.query != nil && isWide(p.query) {
		m.large = true
	}
	if !m.large {
		p.inner(func(q part) { m.add(q, level+1) })
	}
}

// isWide reports whether a select has too many sources or items.
func isWide(q *api.Select) bool {
	return len(q.From)+len(q.Joins) > api.MaxSources || len(q.Items) > api.MaxItems
}

// isGrouped reports whether a select is grouped.
func isGrouped(q *api.Select) bool {
	return len(q.Group) > 0 || len(q.Having) > 0 || hasAggregate(part{query: q})
}

// hasAggregate reports whether an XAgg that belongs to the same select is within a part.
func hasAggregate(p part) bool {
	found := false
	p.inner(func(q part) {
		found = found || q.query == nil && (q.expr != nil && q.expr.Kind == api.XAgg || hasAggregate(q))
	})
	return found
}

// conjuncts returns the conjuncts of a condition.
func conjuncts(e api.Expr) []api.Expr {
	if !isAnd(e) {
		return []api.Expr{e}
	}
	return append(conjuncts(e.Args[0]), conjuncts(e.Args[1])...)
}

// isAnd reports whether an expression is an OpAnd.
func isAnd(e api.Expr) bool { return e.Kind == api.XOp && e.Op == api.OpAnd }
