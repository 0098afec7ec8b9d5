package same

import (
	"slices"

	"dumbwaiter/api"
)

// Object reports whether two objects are equal.
func Object(a, b api.Object) bool {
	return a.Entity == b.Entity && a.Tenant == b.Tenant && a.ID == b.ID && a.Version == b.Version && a.Gone == b.Gone &&
		slices.Equal(a.Values, b.Values) && slices.Equal(a.Ones, b.Ones)
}

// Data reports whether two data are equal.
func Data(a, b api.Data) bool {
	return slices.EqualFunc(a.Tables, b.Tables, func(s, t api.TableRows) bool {
		return s.Table == t.Table && slices.EqualFunc(s.Rows, t.Rows, slices.Equal[[]api.Value])
	})
}
