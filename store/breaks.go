package store

import (
	"slices"

	"dumbwaiter/api"
	"dumbwaiter/schema"
	"dumbwaiter/value"
)

// Breaks returns what data violate.
func Breaks(s api.Schema, d api.Data) ([]api.Break, api.Errno) {
	if err := schema.CheckSchema(s); err != api.OK {
		return nil, err
	}
	if err := checkValues(s, d); err != api.OK {
		return nil, err
	}
	f := newFrame(s)
	keys := make([]map[string]bool, len(f.shapes))
	for i := range f.shapes {
		keys[i] = map[string]bool{}
		for _, row := range d.Tables[i].Rows {
			keys[i][f.shapes[i].keyOf(row)] = true
		}
	}
	var l []api.Break
	for i := range f.shapes {
		search{&f.shapes[i], d.Tables[i].Rows, &l}.all(keys)
	}
	return l, api.OK
}

// checkValues checks data as far as each value alone tells it, but for nulls.
func checkValues(s api.Schema, d api.Data) api.Errno {
	if !slices.EqualFunc(s.Tables, d.Tables, func(t api.Table, rows api.TableRows) bool { return t.Name == rows.Table }) {
		return api.ErrForm
	}
	for i, t := range s.Tables {
		if len(d.Tables[i].Rows) > api.MaxRows {
			return api.ErrLarge
		}
		for _, row := range d.Tables[i].Rows {
			if err := checkRowValues(t, row); err != api.OK {
				return err
			}
		}
	}
	return api.OK
}

// checkRowValues checks the values of a row, but for nulls.
func checkRowValues(t api.Table, row []api.Value) api.Errno {
	if len(row) != len(t.Columns) {
		return api.ErrForm
	}
	for i, c := range t.Columns {
		if err := value.Check(c.Kind, row[i]); err != api.OK {
			return err
		}
	}
	return api.OK
}

// search looks through the rows of a table for what they violate.
type search struct {
	*shape
	rows   [][]api.Value
	breaks *[]api.Break
}

// tell adds a violation by a row.
func (x search) tell(kind, row int, name string) {
	*x.breaks = append(*x.breaks, api.Break{Kind: kind, Table: x.table.Name, Row: row, Name: name})
}

// all tells all violations, where keys has the keys of all tables.
func (x search) all(keys []map[string]bool) {
	for i, row := range x.rows {
		for k, c := range x.table.Columns {
			if row[k].Kind == api.Null && !c.Null {
				x.tell(api.BadNull, i, c.Name)
			}
		}
	}
	x.again(api.BadKey, "", func(row []api.Value) (string, bool) { return x.keyOf(row), true })
	for k, index := range x.table.Indexes {
		x.again(api.BadUnique, index.Name, func(row []api.Value) (string, bool) { return x.uniqueOf(row, k) })
	}
	for k, foreign := range x.table.Foreigns {
		for i, row := range x.rows {
			if key, refers := x.foreignOf(row, k); refers && !keys[x.targets[k]][key] {
				x.tell(api.BadRef, i, foreign.Name)
			}
		}
	}
}

// again tells each row that has, by a function that says what counts, the same as an earlier one.
func (x search) again(kind int, name string, f func(row []api.Value) (string, bool)) {
	seen := map[string]bool{}
	for i, row := range x.rows {
		key, counts := f(row)
		if !counts {
			continue
		}
		if seen[key] {
			x.tell(kind, i, name)
		}
		seen[key] = true
	}
}
