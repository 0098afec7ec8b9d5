package migrate

import (
	"slices"

	"dumbwaiter/api"
	"dumbwaiter/schema"
	"dumbwaiter/value"
)

// Moved returns what becomes of rows.
func Moved(a, b api.Schema, hints []api.Hint, d api.Data) (api.Data, api.Errno) {
	err := CheckHints(a, b, hints)
	if err == api.OK {
		err = schema.CheckData(a, d)
	}
	if err != api.OK {
		return api.Data{}, err
	}
	moved, faults := withoutRows(b), map[api.Errno]bool{}
	for _, t := range twinsOf(a, b, hints) {
		rows := d.Tables[tablePlace(a, t.old.Name)].Rows
		moved.Tables[tablePlace(b, t.fresh.Name)].Rows = t.movedRows(rows, func(err api.Errno) { faults[err] = true })
	}
	switch {
	case faults[api.ErrLost]:
		return api.Data{}, api.ErrLost
	case faults[api.ErrNull]:
		return api.Data{}, api.ErrNull
	}
	if err := schema.CheckData(b, moved); err != api.OK {
		return api.Data{}, err
	}
	return moved, api.OK
}

// movedRows returns what becomes of the rows of the old table, sorted by the new key, and tells what is wrong with values.
func (t twin) movedRows(rows [][]api.Value, fault func(err api.Errno)) [][]api.Value {
	var movers []func(row []api.Value) api.Value
	for i, c := range t.fresh.Columns {
		movers = append(movers, moverOf(c, t.from[i], fault))
	}
	var moved [][]api.Value
	for _, row := range rows {
		next := make([]api.Value, len(movers))
		for i, mover := range movers {
			next[i] = mover(row)
		}
		moved = append(moved, next)
	}
	var key []int
	for _, name := range t.fresh.Key {
		key = append(key, columnPlace(t.fresh, name))
	}
	slices.SortStableFunc(moved, func(x, y []api.Value) int { return value.CompareLists(pick(x, key), pick(y, key)) })
	return moved
}

// moverOf returns what gives the value in a column for an old row, whose value at a place (-1: none) belongs there.
func moverOf(c api.Column, from int, fault func(err api.Errno)) func(row []api.Value) api.Value {
	if from < 0 {
		initial, _ := initialOf(c)
		return func([]api.Value) api.Value { return initial }
	}
	return func(row []api.Value) api.Value {
		v := value.Cast(row[from], c.Kind)
		if isNull(v) && !isNull(row[from]) {
			fault(api.ErrLost)
		}
		if !isNull(v) || c.Null {
			return v
		}
		if isNull(c.Default) {
			fault(api.ErrNull)
		}
		return c.Default
	}
}

// initialOf returns what rows have in a new column, and whether that is its Default.
func initialOf(c api.Column) (api.Value, bool) {
	if c.Null || !isNull(c.Default) {
		return c.Default, true
	}
	return zero(c.Kind), false
}

// pick returns the values at some places of a row.
func pick(row []api.Value, places []int) []api.Value {
	l := make([]api.Value, len(places))
	for i, place := range places {
		l[i] = row[place]
	}
	return l
}
