package store

import (
	"dumbwaiter/api"
	"dumbwaiter/clone"
	"dumbwaiter/schema"
	"dumbwaiter/value"
)

// Changed returns the schema and the data behind a change.
func Changed(s api.Schema, d api.Data, c api.Change) (api.Schema, api.Data, api.Errno) {
	if err := CheckChange(s, c); err != api.OK {
		return api.Schema{}, api.Data{}, err
	}
	if err := schema.CheckData(s, d); err != api.OK {
		return api.Schema{}, api.Data{}, err
	}
	next, err := stateOf(s, d).altered(c)
	if err != api.OK {
		return api.Schema{}, api.Data{}, err
	}
	return clone.Schema(next.frame.schema), next.data(), api.OK
}

// stateOf returns the state of right data, which it keeps.
func stateOf(s api.Schema, d api.Data) *state {
	x := &state{frame: newFrame(s)}
	for i := range x.frame.shapes {
		x.heaps = append(x.heaps, x.frame.shapes[i].heapOf(d.Tables[i].Rows))
	}
	return x
}

// altered returns the state behind a change of structure.
func (s *state) altered(c api.Change) (*state, api.Errno) {
	next, err := changedSchema(s.frame.schema, c)
	if err != api.OK {
		return nil, err
	}
	x := &state{frame: newFrame(next)}
	for i, t := range next.Tables {
		h := &x.frame.shapes[i]
		switch from := s.origin(t.Name, c); {
		case from < 0:
			x.heaps = append(x.heaps, h.heapOf(nil))
		case s.frame.schema.Tables[from].Name != c.Table:
			x.heaps = append(x.heaps, s.heaps[from])
		default:
			rows, err := s.reshaped(from, c)
			if err == api.OK {
				err = s.checkRows(x.frame, i, rows, c)
			}
			if err != api.OK {
				return nil, err
			}
			x.heaps = append(x.heaps, h.heapOf(rows))
		}
	}
	return x, api.OK
}

// origin returns the number of the table that has a name behind a change; -1: it is new.
func (s *state) origin(name string, c api.Change) int {
	if c.Kind == api.ChRename && name == c.Name {
		name = c.Table
	}
	if from, there := s.frame.numbers[name]; there {
		return from
	}
	return -1
}

// reshaped returns the rows of a table as they are behind a change of it.
func (s *state) reshaped(table int, c api.Change) ([][]api.Value, api.Errno) {
	reshape := s.frame.shapes[table].reshaper(c)
	rows := s.rows(table)
	for i, row := range rows {
		next, err := reshape(row)
		if err != api.OK {
			return nil, err
		}
		rows[i] = next
	}
	return rows, api.OK
}

// reshaper returns a function for what becomes of a row behind a change of the table. It does not change the row.
func (h *shape) reshaper(c api.Change) func(row []api.Value) ([]api.Value, api.Errno) {
	place := columnPlace(&h.table, c.Name)
	switch c.Kind {
	case api.ChAdd:
		return func(row []api.Value) ([]api.Value, api.Errno) {
			return append(clone.Row(row), c.Column.Default), api.OK
		}
	case api.ChRemove:
		return func(row []api.Value) ([]api.Value, api.Errno) {
			return append(clone.Row(row[:place]), row[place+1:]...), api.OK
		}
	case api.ChCast:
		return instead(place, func(v api.Value) (api.Value, api.Errno) { return castOf(v, c.Column.Kind) })
	case api.ChTight:
		return instead(place, func(v api.Value) (api.Value, api.Errno) { return tightOf(v, c.Column.Default) })
	case api.ChOrder:
		places := mapped(c.Columns, func(name string) int { return columnPlace(&h.table, name) })
		return func(row []api.Value) ([]api.Value, api.Errno) { return pick(row, places), api.OK }
	}
	return func(row []api.Value) ([]api.Value, api.Errno) { return row, api.OK }
}

// instead returns a function that gives a row with another value at a place.
func instead(place int, f func(v api.Value) (api.Value, api.Errno)) func(row []api.Value) ([]api.Value, api.Errno) {
	return func(row []api.Value) ([]api.Value, api.Errno) {
		v, err := f(row[place])
		next := clone.Row(row)
		next[place] = v
		return next, err
	}
}

// castOf returns the value of another kind that a value becomes.
func castOf(v api.Value, kind int) (api.Value, api.Errno) {
	x := value.Cast(v, kind)
	if v.Kind != api.Null && x.Kind == api.Null {
		return x, api.ErrLost
	}
	return x, api.OK
}

// tightOf returns what a value becomes in a column that can no longer be null.
func tightOf(v, def api.Value) (api.Value, api.Errno) {
	switch {
	case v.Kind != api.Null:
		return v, api.OK
	case def.Kind == api.Null:
		return v, api.ErrNull
	}
	return def, api.OK
}

// checkRows checks, behind a change, the keys, unique values and references of the rows of a table of a frame. The keys of the tables to which they refer have not changed: a change that can change keys is refused then.
func (s *state) checkRows(f *frame, table int, rows [][]api.Value, c api.Change) api.Errno {
	h := &f.shapes[table]
	seen := map[claim]bool{}
	for _, row := range rows {
		for _, x := range h.claims(row) {
			if seen[x] {
				return api.ErrKey
			}
			seen[x] = true
		}
	}
	has := func(target int, key string) bool { return s.has(s.origin(f.schema.Tables[target].Name, c), key) }
	for _, row := range rows {
		if h.lacks(row, has) {
			return api.ErrRef
		}
	}
	return api.OK
}

// claim is what no two rows of a table can have: a key, or values of an index.
type claim struct {
	index int // -1: the key
	bytes string
}

// claims returns what no other row of the table can have.
func (h *shape) claims(row []api.Value) []claim {
	l := []claim{{-1, h.keyOf(row)}}
	for i := range h.indexes {
		if values, unique := h.uniqueOf(row, i); unique {
			l = append(l, claim{i, values})
		}
	}
	return l
}
