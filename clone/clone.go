// Package clone copies models and worlds, schemas, changes of them, and rows. A copy shares no memory with what it is of, and no two lists of it share memory.
package clone

import (
	"slices"

	"dumbwaiter/api"
)

// each returns the copies of the elements of a list, nil for nil.
func each[T any](l []T, copied func(x T) T) []T {
	if l == nil {
		return nil
	}
	c := make([]T, len(l))
	for i, x := range l {
		c[i] = copied(x)
	}
	return c
}

// Schema copies a schema.
func Schema(s api.Schema) api.Schema { return api.Schema{Tables: each(s.Tables, Table)} }

// Table copies a table.
func Table(t api.Table) api.Table {
	t.Columns = slices.Clone(t.Columns)
	t.Key = slices.Clone(t.Key)
	t.Foreigns = each(t.Foreigns, Foreign)
	t.Indexes = each(t.Indexes, Index)
	return t
}

// Foreign copies a foreign key.
func Foreign(f api.Foreign) api.Foreign {
	f.Columns = slices.Clone(f.Columns)
	return f
}

// Index copies an index.
func Index(x api.Index) api.Index {
	x.Columns = slices.Clone(x.Columns)
	return x
}

// Changes copies a list of changes.
func Changes(l []api.Change) []api.Change { return each(l, Change) }

// Change copies a change.
func Change(c api.Change) api.Change {
	c.Index = Index(c.Index)
	c.Foreign = Foreign(c.Foreign)
	c.New = Table(c.New)
	c.Columns = slices.Clone(c.Columns)
	return c
}

// Row copies a row.
func Row(row []api.Value) []api.Value { return slices.Clone(row) }

// Rows copies rows.
func Rows(rows [][]api.Value) [][]api.Value { return each(rows, Row) }

// Data copies data.
func Data(d api.Data) api.Data {
	return api.Data{Tables: each(d.Tables, func(t api.TableRows) api.TableRows { return api.TableRows{Table: t.Table, Rows: Rows(t.Rows)} })}
}
