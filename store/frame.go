package store

import (
	"slices"

	"dumbwaiter/api"
	"dumbwaiter/value"
)

// frame is a right schema with the places of what its tables name. It is never changed.
type frame struct {
	schema  api.Schema
	numbers map[string]int // of the tables
	shapes  []shape        // of the tables
}

// shape is a table with the places of the columns that its key, its indexes and its foreign keys name.
type shape struct {
	table    api.Table
	key      []int
	indexes  [][]int
	foreigns [][]int
	targets  []int  // the numbers of the tables to which the foreign keys refer
	backs    []back // the foreign keys that refer to the table
}

// back is a foreign key of a table, by both numbers.
type back struct{ table, foreign int }

// newFrame returns the frame of a right schema, which it keeps.
func newFrame(s api.Schema) *frame {
	f := &frame{schema: s, numbers: map[string]int{}}
	for i, t := range s.Tables {
		f.numbers[t.Name] = i
		f.shapes = append(f.shapes, shapeOf(t))
	}
	for i, t := range s.Tables {
		for k, x := range t.Foreigns {
			target := f.numbers[x.Table]
			f.shapes[i].targets = append(f.shapes[i].targets, target)
			f.shapes[target].backs = append(f.shapes[target].backs, back{i, k})
		}
	}
	return f
}

// shapeOf returns the shape of a table, as far as the table alone tells it.
func shapeOf(t api.Table) shape {
	numbers := map[string]int{}
	for i, c := range t.Columns {
		numbers[c.Name] = i
	}
	places := func(names []string) []int {
		l := make([]int, len(names))
		for i, name := range names {
			l[i] = numbers[name]
		}
		return l
	}
	h := shape{table: t, key: places(t.Key)}
	for _, x := range t.Indexes {
		h.indexes = append(h.indexes, places(x.Columns))
	}
	for _, x := range t.Foreigns {
		h.foreigns = append(h.foreigns, places(x.Columns))
	}
	return h
}

// keyOf returns the bytes of the key of a row.
func (h *shape) keyOf(row []api.Value) string { return bytesOf(row, h.key) }

// uniqueOf returns the bytes of the values of an index in a row, and whether no other row can have them.
func (h *shape) uniqueOf(row []api.Value, index int) (string, bool) {
	return bytesOf(row, h.indexes[index]), h.table.Indexes[index].Unique && !hasNull(row, h.indexes[index])
}

// foreignOf returns the bytes of the values of a foreign key in a row, and whether it refers to one.
func (h *shape) foreignOf(row []api.Value, foreign int) (string, bool) {
	return bytesOf(row, h.foreigns[foreign]), !hasNull(row, h.foreigns[foreign])
}

// pick returns the values at some places of a row.
func pick(row []api.Value, places []int) []api.Value {
	l := make([]api.Value, len(places))
	for i, place := range places {
		l[i] = row[place]
	}
	return l
}

// bytesOf returns the bytes of the values at some places of a row. They begin with those of the first values, and end where no other list goes on.
func bytesOf(row []api.Value, places []int) string { return string(value.Key(pick(row, places))) }

// hasNull reports whether a value at some places of a row is null.
func hasNull(row []api.Value, places []int) bool {
	return slices.ContainsFunc(places, func(place int) bool { return row[place].Kind == api.Null })
}

// checkRow checks a row of a table.
func (h *shape) checkRow(row []api.Value) api.Errno {
	if len(row) != len(h.table.Columns) {
		return api.ErrForm
	}
	for i, c := range h.table.Columns {
		if err := checkValue(c, row[i]); err != api.OK {
			return err
		}
	}
	return api.OK
}

// checkKey checks the values of a key of a table.
func (h *shape) checkKey(key []api.Value) api.Errno {
	if len(key) != len(h.key) {
		return api.ErrForm
	}
	for i, place := range h.key {
		if err := checkValue(h.table.Columns[place], key[i]); err != api.OK {
			return err
		}
	}
	return api.OK
}

// checkValue checks a value of a column. (Columns of a key cannot be null.)
func checkValue(c api.Column, v api.Value) api.Errno {
	err := value.Check(c.Kind, v)
	if err == api.OK && v.Kind == api.Null && !c.Null {
		return api.ErrNull
	}
	return err
}
