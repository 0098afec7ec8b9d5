package same

import (
	"slices"

	"dumbwaiter/api"
)

// Schema reports whether two schemas are equal.
func Schema(a, b api.Schema) bool { return slices.EqualFunc(a.Tables, b.Tables, Table) }

// Table reports whether two tables are equal.
func Table(a, b api.Table) bool {
	return a.Name == b.Name && slices.Equal(a.Columns, b.Columns) && slices.Equal(a.Key, b.Key) &&
		slices.EqualFunc(a.Foreigns, b.Foreigns, func(f, g api.Foreign) bool {
			return f.Name == g.Name && f.Table == g.Table && slices.Equal(f.Columns, g.Columns)
		}) &&
		slices.EqualFunc(a.Indexes, b.Indexes, func(x, y api.Index) bool {
			return x.Name == y.Name && x.Unique == y.Unique && slices.Equal(x.Columns, y.Columns)
		})
}
