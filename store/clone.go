package store

import (
	"slices"

	"dumbwaiter/api"
)

// mapped returns the results of a function for the elements of a list.
func mapped[T, U any](l []T, f func(x T) U) []U {
	c := make([]U, len(l))
	for i, x := range l {
		c[i] = f(x)
	}
	return c
}

// cloneSchema returns a copy of a schema that shares no memory with it. So do the functions below.
func cloneSchema(s api.Schema) api.Schema { return api.Schema{Tables: mapped(s.Tables, cloneTable)} }

func cloneTable(t api.Table) api.Table {
	t.Columns = slices.Clone(t.Columns)
	t.Key = slices.Clone(t.Key)
	t.Foreigns = mapped(t.Foreigns, cloneForeign)
	t.Indexes = mapped(t.Indexes, cloneIndex)
	return t
}

func cloneForeign(f api.Foreign) api.Foreign {
	f.Columns = slices.Clone(f.Columns)
	return f
}

func cloneIndex(x api.Index) api.Index {
	x.Columns = slices.Clone(x.Columns)
	return x
}

func cloneRow(row []api.Value) []api.Value { return slices.Clone(row) }

func cloneRows(rows [][]api.Value) [][]api.Value { return mapped(rows, cloneRow) }
