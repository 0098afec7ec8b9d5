package schema

import (
	"slices"

	"dumbwaiter/api"
	"dumbwaiter/same"
)

// Equal reports whether two models are equal in all fields. (Formulas of models that are not right can have any parts.)
func Equal(a, b api.Model) bool {
	return slices.EqualFunc(a.Embeds, b.Embeds, sameEmbed) && slices.EqualFunc(a.Entities, b.Entities, sameEntity)
}

func sameEmbed(a, b api.Embed) bool {
	return a.Name == b.Name && slices.EqualFunc(a.Fields, b.Fields, sameField)
}

func sameField(a, b api.Field) bool {
	return a.Name == b.Name && a.Kind == b.Kind && a.Of == b.Of && a.Null == b.Null && a.Default == b.Default &&
		slices.Equal(a.Texts, b.Texts) && same.Exprs(a.Formula, b.Formula)
}

func sameEntity(a, b api.Entity) bool {
	return a.Name == b.Name && a.Parent == b.Parent &&
		a.Apart == b.Apart && a.Version == b.Version && a.Soft == b.Soft && a.Tenant == b.Tenant &&
		slices.EqualFunc(a.Fields, b.Fields, sameField) && slices.Equal(a.Relations, b.Relations) &&
		slices.EqualFunc(a.Uniques, b.Uniques, slices.Equal[[]string]) && slices.EqualFunc(a.Indexes, b.Indexes, slices.Equal[[]string])
}
