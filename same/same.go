// Package same says whether expressions, what they are part of, schemas, objects and rows are equal in all fields. (Lists without elements are equal, also nil ones.)
package same

import (
	"slices"

	"dumbwaiter/api"
)

// Exprs reports whether two lists of expressions are equal.
func Exprs(a, b []api.Expr) bool { return slices.EqualFunc(a, b, Expr) }

// Expr reports whether two expressions are equal.
func Expr(a, b api.Expr) bool {
	return a.Kind == b.Kind && a.Op == b.Op && a.N == b.N && a.Value == b.Value &&
		a.Source == b.Source && a.Name == b.Name && a.Distinct == b.Distinct &&
		Exprs(a.Args, b.Args) && Selects(a.Sub, b.Sub) && Exprs(a.Group, b.Group) && orders(a.Order, b.Order)
}

// Selects reports whether two lists of selects are equal.
func Selects(a, b []api.Select) bool { return slices.EqualFunc(a, b, query) }

func query(a, b api.Select) bool {
	return a.Distinct == b.Distinct && a.Limit == b.Limit && a.Offset == b.Offset &&
		slices.EqualFunc(a.Items, b.Items, item) && slices.EqualFunc(a.From, b.From, source) && slices.EqualFunc(a.Joins, b.Joins, join) &&
		Exprs(a.Where, b.Where) && Exprs(a.Group, b.Group) && Exprs(a.Having, b.Having) && orders(a.Order, b.Order)
}

func orders(a, b []api.Order) bool {
	return slices.EqualFunc(a, b, func(a, b api.Order) bool {
		return a.Desc == b.Desc && a.Last == b.Last && Expr(a.Expr, b.Expr)
	})
}

func item(a, b api.Item) bool { return a.Name == b.Name && Expr(a.Expr, b.Expr) }

func source(a, b api.Source) bool {
	return a.Name == b.Name && a.Table == b.Table && Selects(a.Sub, b.Sub)
}

func join(a, b api.Join) bool {
	return a.Left == b.Left && source(a.Source, b.Source) && Expr(a.On, b.On)
}
