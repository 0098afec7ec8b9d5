// Package delta says which changes of rows make data others.
package delta

import (
	"slices"

	"dumbwaiter/api"
	"dumbwaiter/value"
)

// Changes returns the changes that make data of a schema others. The rows of both are sorted by their keys.
func Changes(s api.Schema, before, after api.Data) []api.RowChange {
	var l []api.RowChange
	for i, t := range s.Tables {
		l = append(l, changes(t, before.Tables[i].Rows, after.Tables[i].Rows)...)
	}
	return l
}

// changes returns the changes that make rows of a table others.
func changes(t api.Table, before, after [][]api.Value) []api.RowChange {
	keyOf := keyOf(t)
	var l []api.RowChange
	for len(before) > 0 || len(after) > 0 {
		c := 0
		switch {
		case len(before) == 0:
			c = 1
		case len(after) == 0:
			c = -1
		default:
			c = value.CompareLists(keyOf(before[0]), keyOf(after[0]))
		}
		switch {
		case c < 0:
			l = append(l, api.RowChange{Kind: api.RowDelete, Table: t.Name, Key: keyOf(before[0])})
		case c > 0:
			l = append(l, api.RowChange{Kind: api.RowInsert, Table: t.Name, Row: after[0]})
		case !slices.Equal(before[0], after[0]):
			l = append(l, api.RowChange{Kind: api.RowUpdate, Table: t.Name, Key: keyOf(before[0]), Row: after[0]})
		}
		if c <= 0 {
			before = before[1:]
		}
		if c >= 0 {
			after = after[1:]
		}
	}
	return l
}

// keyOf returns a function that returns the key of a row of a table.
func keyOf(t api.Table) func(row []api.Value) []api.Value {
	var places []int
	for _, name := range t.Key {
		places = append(places, slices.IndexFunc(t.Columns, func(c api.Column) bool { return c.Name == name }))
	}
	return func(row []api.Value) []api.Value {
		var key []api.Value
		for _, place := range places {
			key = append(key, row[place])
		}
		return key
	}
}
