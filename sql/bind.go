package sql

import (
	"slices"

	"dumbwaiter/api"
)

// Bind returns a statement without parameters.
func Bind(s api.Schema, st api.Statement, params []api.Value) (api.Statement, api.Errno) {
	err := Check(s, st)
	if err == api.OK {
		err = checkParams(st.Params, params)
	}
	if err != api.OK {
		return api.Statement{}, err
	}
	b := binding{params}
	st.Params = nil
	st.Select = b.selects(st.Select)
	st.Columns = slices.Clone(st.Columns)
	st.Rows = mapped(st.Rows, b.exprs)
	st.Sets = b.exprs(st.Sets)
	st.Where = b.exprs(st.Where)
	return st, api.OK
}

// binding copies parts of statements, with values in the place of parameters.
type binding struct{ params []api.Value }

func (b binding) exprs(l []api.Expr) []api.Expr { return mapped(l, b.expr) }

func (b binding) expr(e api.Expr) api.Expr {
	if e.Kind == api.XParam {
		return api.Expr{Kind: api.XValue, Value: b.params[e.N]}
	}
	e.Args = b.exprs(e.Args)
	e.Sub = b.selects(e.Sub)
	e.Group = b.exprs(e.Group)
	e.Order = b.orders(e.Order)
	return e
}

func (b binding) orders(l []api.Order) []api.Order {
	return mapped(l, func(o api.Order) api.Order {
		o.Expr = b.expr(o.Expr)
		return o
	})
}

func (b binding) selects(l []api.Select) []api.Select { return mapped(l, b.query) }

func (b binding) query(q api.Select) api.Select {
	q.Items = mapped(q.Items, func(x api.Item) api.Item { return api.Item{Name: x.Name, Expr: b.expr(x.Expr)} })
	q.From = mapped(q.From, b.source)
	q.Joins = mapped(q.Joins, func(x api.Join) api.Join {
		return api.Join{Left: x.Left, Source: b.source(x.Source), On: b.expr(x.On)}
	})
	q.Where = b.exprs(q.Where)
	q.Group = b.exprs(q.Group)
	q.Having = b.exprs(q.Having)
	q.Order = b.orders(q.Order)
	return q
}

func (b binding) source(x api.Source) api.Source {
	x.Sub = b.selects(x.Sub)
	return x
}
