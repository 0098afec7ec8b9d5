package schema

import (
	"slices"

	"dumbwaiter/api"
)

// Equal reports whether two models are equal in all fields. (Formulas of models that are not right can have any parts.)
func Equal(a, b api.Model) bool {
	return slices.EqualFunc(a.Embeds, b.Embeds, sameEmbed) && slices.EqualFunc(a.Entities, b.Entities, sameEntity)
}

func sameEmbed(a, b api.Embed) bool {
	return a.Name == b.Name && slices.EqualFunc(a.Fields, b.Fields, sameField)
}

func sameField(a, b api.Field) bool {
	return a.Name == b.Name && a.Kind == b.Kind && a.Of == b.Of && a.Null == b.Null && a.Default == b.Default &&
		slices.Equal(a.Texts, b.Texts) && sameExprs(a.Formula, b.Formula)
}

func sameEntity(a, b api.Entity) bool {
	return a.Name == b.Name && a.Parent == b.Parent &&
		a.Apart == b.Apart && a.Version == b.Version && a.Soft == b.Soft && a.Tenant == b.Tenant &&
		slices.EqualFunc(a.Fields, b.Fields, sameField) && slices.Equal(a.Relations, b.Relations) &&
		slices.EqualFunc(a.Uniques, b.Uniques, slices.Equal[[]string]) && slices.EqualFunc(a.Indexes, b.Indexes, slices.Equal[[]string])
}

func sameExprs(a, b []api.Expr) bool { return slices.EqualFunc(a, b, sameExpr) }

func sameExpr(a, b api.Expr) bool {
	return a.Kind == b.Kind && a.Op == b.Op && a.N == b.N && a.Value == b.Value &&
		a.Source == b.Source && a.Name == b.Name && a.Distinct == b.Distinct &&
		sameExprs(a.Args, b.Args) && sameSelects(a.Sub, b.Sub) && sameExprs(a.Group, b.Group) && sameOrders(a.Order, b.Order)
}

func sameOrders(a, b []api.Order) bool {
	return slices.EqualFunc(a, b, func(a, b api.Order) bool {
		return a.Desc == b.Desc && a.Last == b.Last && sameExpr(a.Expr, b.Expr)
	})
}

func sameSelects(a, b []api.Select) bool { return slices.EqualFunc(a, b, sameSelect) }

func sameSelect(a, b api.Select) bool {
	return a.Distinct == b.Distinct && a.Limit == b.Limit && a.Offset == b.Offset &&
		slices.EqualFunc(a.Items, b.Items, sameItem) && slices.EqualFunc(a.From, b.From, sameSource) && slices.EqualFunc(a.Joins, b.Joins, sameJoin) &&
		sameExprs(a.Where, b.Where) && sameExprs(a.Group, b.Group) && sameExprs(a.Having, b.Having) && sameOrders(a.Order, b.Order)
}

func sameItem(a, b api.Item) bool { return a.Name == b.Name && sameExpr(a.Expr, b.Expr) }

func sameSource(a, b api.Source) bool {
	return a.Name == b.Name && a.Table == b.Table && sameSelects(a.Sub, b.Sub)
}

func sameJoin(a, b api.Join) bool {
	return a.Left == b.Left && sameSource(a.Source, b.Source) && sameExpr(a.On, b.On)
}
