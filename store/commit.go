package store

import (
	"cmp"
	"slices"
	"strings"

	"dumbwaiter/api"
)

// shift is what has become of the row at a place: nil means that there is none.
type shift struct {
	spot
	was, is []api.Value
}

// shifts returns what has become of rows since base, sorted by their places.
func (t *Txn) shifts() []shift {
	var l []shift
	for at := range t.written {
		x := shift{at, t.base.get(at.table, at.key), t.now.get(at.table, at.key)}
		if !slices.Equal(x.was, x.is) {
			l = append(l, x)
		}
	}
	slices.SortFunc(l, func(a, b shift) int { return cmp.Or(a.table-b.table, strings.Compare(a.key, b.key)) })
	return l
}

// shifts writes what has become of rows.
func (w *writer) shifts(f *frame, l []shift) {
	writeList(w, l, func(x shift) { w.rowChange(f.rowChange(x)) })
}

// body returns the body of the record of the transaction, with what has become of rows since base.
func (t *Txn) body(l []shift) []byte {
	w := writer{slices.Clone(t.before.l)}
	w.shifts(t.base.frame, l)
	return w.bytes()
}

// rowChange returns a shift as a change of a row.
func (f *frame) rowChange(x shift) api.RowChange {
	h := &f.shapes[x.table]
	c := api.RowChange{Kind: api.RowUpdate, Table: h.table.Name, Row: x.is}
	if x.was == nil {
		c.Kind = api.RowInsert
		return c
	}
	if x.is == nil {
		c.Kind = api.RowDelete
	}
	c.Key = pick(x.was, h.key)
	return c
}

// deed returns what the commit of the transaction does, with what has become of rows since base.
func (t *Txn) deed(l []shift) deed {
	d := deed{altered: t.altered, touched: marks{}}
	for _, x := range l {
		for _, row := range [][]api.Value{x.was, x.is} {
			if row != nil {
				d.touched.touch(t.base.frame, x.table, row)
			}
		}
	}
	return d
}

// Commit makes the changes of a transaction those of the store.
func (t *Txn) Commit() api.Errno {
	if t.ended {
		return api.ErrState
	}
	conflict, whole := t.hasConflict(), *t
	t.end()
	if conflict {
		return api.ErrConflict
	}
	return whole.commit()
}

// hasConflict reports whether the transaction depends on what others have committed since it began. (One that has changed the structure has noted all tables, so that it depends on each row.)
func (t *Txn) hasConflict() bool {
	return slices.ContainsFunc(t.store.history.since(t.begun), func(x span) bool { return x.altered || t.noted.meets(x.touched) })
}

// commit commits a transaction without a conflict, which is no longer counted as open.
func (t *Txn) commit() api.Errno {
	l := t.shifts()
	next, err := t.merged(l)
	if err != api.OK {
		return err
	}
	t.store.log = addRecord(t.store.log, t.store.Commits()+1, t.body(l))
	t.store.now = next
	t.store.history.add(func() deed { return t.deed(l) })
	return api.OK
}

// merged returns the tables of the store with what has become of rows since base. (Behind a change of structure nobody else has changed a row.)
func (t *Txn) merged(l []shift) (*state, api.Errno) {
	if t.altered || t.store.now == t.start {
		return t.now, api.OK
	}
	return t.store.now.after(mapped(l, func(x shift) write {
		return write{table: x.table, goes: x.was != nil, gone: x.key, comes: x.is != nil, row: x.is, rowKey: x.key}
	}))
}

// Rollback ends a transaction without a change.
func (t *Txn) Rollback() api.Errno {
	if t.ended {
		return api.ErrState
	}
	t.end()
	return api.OK
}

// end ends a transaction, and forgets all that it has seen.
func (t *Txn) end() {
	t.store.history.leave(t.begun)
	*t = Txn{ended: true}
}
