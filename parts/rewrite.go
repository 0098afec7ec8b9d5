package parts

import (
	"slices"

	"dumbwaiter/api"
)

// Rewriter makes statements of others. It copies each part, with what has become of the parts within it; then Expr, if there is one, makes another expression of an expression, and Query another select of a select. What they are given is theirs.
type Rewriter struct {
	Expr  func(e api.Expr) api.Expr
	Query func(q api.Select) api.Select
}

// Statement returns what becomes of a statement.
func (r Rewriter) Statement(st api.Statement) api.Statement {
	st.Params = slices.Clone(st.Params)
	st.Select = r.selects(st.Select)
	st.Columns = slices.Clone(st.Columns)
	st.Rows = mapped(st.Rows, r.Exprs)
	st.Sets = r.Exprs(st.Sets)
	st.Where = r.Exprs(st.Where)
	return st
}

// Exprs returns what becomes of expressions.
func (r Rewriter) Exprs(l []api.Expr) []api.Expr { return mapped(l, r.expr) }

func (r Rewriter) expr(e api.Expr) api.Expr {
	e.Args = r.Exprs(e.Args)
	e.Sub = r.selects(e.Sub)
	e.Group = r.Exprs(e.Group)
	e.Order = r.orders(e.Order)
	if r.Expr == nil {
		return e
	}
	return r.Expr(e)
}

func (r Rewriter) orders(l []api.Order) []api.Order {
	return mapped(l, func(o api.Order) api.Order {
		o.Expr = r.expr(o.Expr)
		return o
	})
}

func (r Rewriter) selects(l []api.Select) []api.Select { return mapped(l, r.query) }

func (r Rewriter) query(q api.Select) api.Select {
	q.Items = mapped(q.Items, func(x api.Item) api.Item { return api.Item{Name: x.Name, Expr: r.expr(x.Expr)} })
	q.From = mapped(q.From, r.source)
	q.Joins = mapped(q.Joins, func(x api.Join) api.Join {
		return api.Join{Left: x.Left, Source: r.source(x.Source), On: r.expr(x.On)}
	})
	q.Where = r.Exprs(q.Where)
	q.Group = r.Exprs(q.Group)
	q.Having = r.Exprs(q.Having)
	q.Order = r.orders(q.Order)
	if r.Query == nil {
		return q
	}
	return r.Query(q)
}

func (r Rewriter) source(x api.Source) api.Source {
	x.Sub = r.selects(x.Sub)
	return x
}

// mapped returns the results of a function for the elements of a list.
func mapped[T, U any](l []T, f func(x T) U) []U {
	if len(l) == 0 {
		return nil
	}
	c := make([]U, len(l))
	for i, x := range l {
		c[i] = f(x)
	}
	return c
}
