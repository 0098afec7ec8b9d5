// Package parts goes through the parts of statements (P4.1), and makes statements of others part by part.
package parts

import (
	"dumbwaiter/api"
)

// Part is a part of a statement: just one of its fields is set.
type Part struct {
	Expr   *api.Expr
	Query  *api.Select
	Source *api.Source
	Item   *api.Item
	Order  *api.Order
}

// Outermost calls visit for the parts of a statement that are within no other one.
func Outermost(st api.Statement, visit func(p Part)) {
	visitSelects(st.Select, visit)
	for _, row := range st.Rows {
		visitExprs(row, visit)
	}
	visitExprs(st.Sets, visit)
	visitExprs(st.Where, visit)
}

// Inner calls visit for the parts that are directly within a part.
func (p Part) Inner(visit func(p Part)) {
	switch {
	case p.Expr != nil:
		visitExprs(p.Expr.Args, visit)
		visitExprs(p.Expr.Group, visit)
		visitOrders(p.Expr.Order, visit)
		visitSelects(p.Expr.Sub, visit)
	case p.Query != nil:
		visitInnerOfSelect(p.Query, visit)
	case p.Source != nil:
		visitSelects(p.Source.Sub, visit)
	case p.Item != nil:
		visit(Part{Expr: &p.Item.Expr})
	default:
		visit(Part{Expr: &p.Order.Expr})
	}
}

// visitInnerOfSelect calls visit for the parts that are directly within a select.
func visitInnerOfSelect(q *api.Select, visit func(p Part)) {
	for i := range q.Items {
		visit(Part{Item: &q.Items[i]})
	}
	for i := range q.From {
		visit(Part{Source: &q.From[i]})
	}
	for i := range q.Joins {
		visit(Part{Source: &q.Joins[i].Source})
		visit(Part{Expr: &q.Joins[i].On})
	}
	visitExprs(q.Where, visit)
	visitExprs(q.Group, visit)
	visitExprs(q.Having, visit)
	visitOrders(q.Order, visit)
}

func visitExprs(l []api.Expr, visit func(p Part)) {
	for i := range l {
		visit(Part{Expr: &l[i]})
	}
}

func visitOrders(l []api.Order, visit func(p Part)) {
	for i := range l {
		visit(Part{Order: &l[i]})
	}
}

func visitSelects(l []api.Select, visit func(p Part)) {
	for i := range l {
		visit(Part{Query: &l[i]})
	}
}

// Walk calls visit for a part and all parts within it for which visit returns true on the way.
func (p Part) Walk(visit func(p Part) bool) {
	if visit(p) {
		p.Inner(func(q Part) { q.Walk(visit) })
	}
}

// All calls visit for all parts of a statement.
func All(st api.Statement, visit func(p Part)) {
	Outermost(st, func(p Part) {
		p.Walk(func(q Part) bool {
			visit(q)
			return true
		})
	})
}

// Exceed reports whether a statement has more than most parts, or more than levels of them within one another.
func Exceed(st api.Statement, most, levels int) bool {
	x := measure{left: most, levels: levels}
	Outermost(st, func(p Part) { x.add(p, 1) })
	return x.exceeded
}

// measure counts parts until there are too many.
type measure struct {
	left     int
	levels   int
	exceeded bool
}

// add counts a part at a level, and those within it. Once it is known that there are too many it goes no deeper: a statement can have any number of levels.
func (x *measure) add(p Part, level int) {
	x.left--
	if x.left < 0 || level > x.levels {
		x.exceeded = true
	}
	if !x.exceeded {
		p.Inner(func(q Part) { x.add(q, level+1) })
	}
}
