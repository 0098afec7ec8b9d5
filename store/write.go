package store

import (
	"slices"

	"dumbwaiter/api"
	"dumbwaiter/clone"
	"dumbwaiter/value"
)

// write is a change of a row, by what it means for a table: the row with a key goes, a row comes, or both.
type write struct {
	table  int
	goes   bool
	gone   string // the key of the row that goes
	comes  bool
	row    []api.Value
	rowKey string
}

// spot is the place of a row: a table and a key.
type spot struct {
	table int
	key   string
}

// writes returns what changes of rows mean, if nothing is wrong with each of them alone. It copies the rows.
func (f *frame) writes(l []api.RowChange) ([]write, api.Errno) {
	writes := make([]write, 0, len(l))
	for _, c := range l {
		number, there := f.numbers[c.Table]
		switch {
		case c.Kind < api.RowInsert || c.Kind > api.RowDelete:
			return nil, api.ErrKind
		case !there:
			return nil, api.ErrName
		case c.Kind == api.RowInsert && len(c.Key) > 0 || c.Kind == api.RowDelete && len(c.Row) > 0:
			return nil, api.ErrForm
		}
		w, err := f.shapes[number].writeOf(c)
		if err != api.OK {
			return nil, err
		}
		w.table = number
		writes = append(writes, w)
	}
	return writes, api.OK
}

// writeOf returns what a change of a row of the table means, if its values are right.
func (h *shape) writeOf(c api.RowChange) (write, api.Errno) {
	w := write{goes: c.Kind != api.RowInsert, comes: c.Kind != api.RowDelete}
	if w.goes {
		if err := h.checkKey(c.Key); err != api.OK {
			return w, err
		}
		w.gone = string(value.Key(c.Key))
	}
	if w.comes {
		if err := h.checkRow(c.Row); err != api.OK {
			return w, err
		}
		w.row, w.rowKey = clone.Row(c.Row), h.keyOf(c.Row)
	}
	return w, api.OK
}

// after returns the state behind writes that are made as one. It keeps their rows.
func (s *state) after(l []write) (*state, api.Errno) {
	if err := s.checkGone(l); err != api.OK {
		return nil, err
	}
	if s.overflows(l) {
		return nil, api.ErrLarge
	}
	next := s.opened(l)
	for _, w := range l {
		if w.goes {
			next.take(w)
		}
	}
	for _, w := range l {
		if w.comes && !next.put(w) {
			return nil, api.ErrKey
		}
	}
	if next.dangles(l) {
		return nil, api.ErrRef
	}
	return next, api.OK
}

// checkGone checks that the rows that go are there, each of them once.
func (s *state) checkGone(l []write) api.Errno {
	seen := map[spot]bool{}
	for _, w := range l {
		if !w.goes {
			continue
		}
		at := spot{w.table, w.gone}
		if seen[at] {
			return api.ErrTwice
		}
		seen[at] = true
	}
	for at := range seen {
		if !s.has(at.table, at.key) {
			return api.ErrNone
		}
	}
	return api.OK
}

// has reports whether a table has a row with a key.
func (s *state) has(table int, key string) bool { return s.get(table, key) != nil }

// get returns the row of a table with a key, nil if there is none. The row is that of the state.
func (s *state) get(table int, key string) []api.Value { return s.heaps[table][0].get(key) }

// overflows reports whether a table has too many rows behind writes.
func (s *state) overflows(l []write) bool {
	more := map[int]int{}
	for _, w := range l {
		if w.goes {
			more[w.table]--
		}
		if w.comes {
			more[w.table]++
		}
	}
	for table, n := range more {
		if s.heaps[table][0].count()+n > api.MaxRows {
			return true
		}
	}
	return false
}

// opened returns a state with the same rows that has heaps of its own for the tables of writes.
func (s *state) opened(l []write) *state {
	next := &state{s.frame, slices.Clone(s.heaps)}
	own := map[int]bool{}
	for _, w := range l {
		if !own[w.table] {
			own[w.table] = true
			next.heaps[w.table] = slices.Clone(s.heaps[w.table])
		}
	}
	return next
}

// take removes the row that goes by a write from an opened state.
func (s *state) take(w write) {
	s.frame.shapes[w.table].remove(s.heaps[w.table], s.get(w.table, w.gone))
}

// put adds the row that comes by a write to an opened state, unless another row has its key or unique values.
func (s *state) put(w write) bool {
	h, x := &s.frame.shapes[w.table], s.heaps[w.table]
	if s.has(w.table, w.rowKey) {
		return false
	}
	for i := range h.indexes {
		if values, unique := h.uniqueOf(w.row, i); unique && x[h.indexTree(i)].has(values) {
			return false
		}
	}
	h.add(x, w.row)
	return true
}

// dangles reports whether, behind writes, a row that came refers to one that is not there, or any row to one that went.
func (s *state) dangles(l []write) bool {
	return slices.ContainsFunc(l, func(w write) bool {
		return w.comes && s.frame.shapes[w.table].lacks(w.row, s.has) || w.goes && s.isMissed(w.table, w.gone)
	})
}

// lacks reports whether a row refers to one that is not there, where has tells which ones are.
func (h *shape) lacks(row []api.Value, has func(table int, key string) bool) bool {
	for i, target := range h.targets {
		if key, refers := h.foreignOf(row, i); refers && !has(target, key) {
			return true
		}
	}
	return false
}

// isMissed reports whether a row is not there, but another one refers to it.
func (s *state) isMissed(table int, key string) bool {
	refers := func(b back) bool {
		return s.heaps[b.table][s.frame.shapes[b.table].foreignTree(b.foreign)].has(key)
	}
	return !s.has(table, key) && slices.ContainsFunc(s.frame.shapes[table].backs, refers)
}
