package store

import (
	"cmp"
	"slices"
	"strings"

	"dumbwaiter/api"
	"dumbwaiter/value"
)

// Txn is a transaction.
type Txn struct {
	store   *Store
	ended   bool
	begun   int    // the number of commits at its beginning
	start   *state // at its beginning
	base    *state // behind its last change of structure
	now     *state
	altered bool
	noted   marks
	written map[spot]bool // where rows may have changed since base
	before  writer        // what its record says about all up to base
}

// Schema returns the schema.
func (t *Txn) Schema() (api.Schema, api.Errno) {
	if t.ended {
		return api.Schema{}, api.ErrState
	}
	return cloneSchema(t.now.frame.schema), api.OK
}

// Data returns all rows.
func (t *Txn) Data() (api.Data, api.Errno) {
	if t.ended {
		return api.Data{}, api.ErrState
	}
	t.noted.noteTables(t.now.frame)
	return t.now.data(), api.OK
}

// table returns the number and the shape of a table.
func (t *Txn) table(name string) (int, *shape, api.Errno) {
	if t.ended {
		return 0, nil, api.ErrState
	}
	number, there := t.now.frame.numbers[name]
	if !there {
		return 0, nil, api.ErrName
	}
	return number, &t.now.frame.shapes[number], api.OK
}

// Get returns the row with a key.
func (t *Txn) Get(table string, key []api.Value) ([]api.Value, api.Errno) {
	number, h, err := t.table(table)
	if err == api.OK {
		err = h.checkKey(key)
	}
	if err != api.OK {
		return nil, err
	}
	bytes := string(value.Key(key))
	t.noted[mark{about: onKey, table: number, values: bytes}] = true
	row := t.now.get(number, bytes)
	if row == nil {
		return nil, api.ErrNone
	}
	return cloneRow(row), api.OK
}

// Scan returns all rows of a table.
func (t *Txn) Scan(table string) ([][]api.Value, api.Errno) {
	number, _, err := t.table(table)
	if err != api.OK {
		return nil, err
	}
	t.noted[mark{about: onTable, table: number}] = true
	return cloneRows(t.now.rows(number)), api.OK
}

// Find returns the rows with some values of an index.
func (t *Txn) Find(table, index string, values []api.Value) ([][]api.Value, api.Errno) {
	number, h, err := t.table(table)
	if err != api.OK {
		return nil, err
	}
	part := slices.IndexFunc(h.table.Indexes, func(x api.Index) bool { return x.Name == index })
	if part < 0 {
		return nil, api.ErrName
	}
	if err := h.checkIndexed(part, values); err != api.OK {
		return nil, err
	}
	bytes := string(value.Key(values))
	t.noted[mark{onIndex, number, part, bytes}] = true
	var found []*node
	t.now.heaps[number][h.indexTree(part)].under(bytes, func(_ string, row []api.Value) bool {
		found = append(found, joined(nil, h.keyOf(row), row, nil))
		return true
	})
	return mapped(sorted(found), func(n *node) []api.Value { return cloneRow(n.row) }), api.OK
}

// checkIndexed checks values of the first columns of an index.
func (h *shape) checkIndexed(index int, values []api.Value) api.Errno {
	places := h.indexes[index]
	if len(values) == 0 || len(values) > len(places) {
		return api.ErrForm
	}
	for i, v := range values {
		if err := value.Check(h.table.Columns[places[i]].Kind, v); err != api.OK {
			return err
		}
	}
	return api.OK
}

// Insert inserts a row.
func (t *Txn) Insert(table string, row []api.Value) api.Errno {
	return t.Batch([]api.RowChange{{Kind: api.RowInsert, Table: table, Row: row}})
}

// Update changes a row.
func (t *Txn) Update(table string, key, row []api.Value) api.Errno {
	return t.Batch([]api.RowChange{{Kind: api.RowUpdate, Table: table, Key: key, Row: row}})
}

// Delete deletes a row.
func (t *Txn) Delete(table string, key []api.Value) api.Errno {
	return t.Batch([]api.RowChange{{Kind: api.RowDelete, Table: table, Key: key}})
}

// Batch makes several changes of rows as one.
func (t *Txn) Batch(l []api.RowChange) api.Errno {
	if t.ended {
		return api.ErrState
	}
	writes, err := t.now.frame.writes(l)
	if err != api.OK {
		return err
	}
	for _, w := range writes {
		t.noted.noteWrite(t.now.frame, w)
	}
	next, err := t.now.after(writes)
	if err != api.OK {
		return err
	}
	t.now = next
	for _, w := range writes {
		if w.goes {
			t.written[spot{w.table, w.gone}] = true
		}
		if w.comes {
			t.written[spot{w.table, w.rowKey}] = true
		}
	}
	return api.OK
}

// Alter changes the structure.
func (t *Txn) Alter(c api.Change) api.Errno {
	if t.ended {
		return api.ErrState
	}
	t.noted.noteTables(t.now.frame)
	next, err := t.now.altered(c)
	if err != api.OK {
		return err
	}
	t.before.shifts(t.base.frame, t.shifts())
	t.before.change(c)
	t.base, t.now, t.altered = next, next, true
	clear(t.written)
	return api.OK
}

// shift is what has become of the row at a place: nil means that there is none.
type shift struct {
	spot
	was, is []api.Value
}

// shifts returns what has become of rows since base, sorted by their places.
func (t *Txn) shifts() []shift {
	var l []shift
	for at := range t.written {
		x := shift{at, t.base.get(at.table, at.key), t.now.get(at.table, at.key)}
		if !slices.Equal(x.was, x.is) {
			l = append(l, x)
		}
	}
	slices.SortFunc(l, func(a, b shift) int { return cmp.Or(a.table-b.table, strings.Compare(a.key, b.key)) })
	return l
}

// shifts writes what has become of rows.
func (w *writer) shifts(f *frame, l []shift) {
	writeList(w, l, func(x shift) { w.rowChange(f.rowChange(x)) })
}

// body returns the body of the record of the transaction, with what has become of rows since base.
func (t *Txn) body(l []shift) []byte {
	w := writer{slices.Clone(t.before.l)}
	w.shifts(t.base.frame, l)
	return w.bytes()
}

// rowChange returns a shift as a change of a row.
func (f *frame) rowChange(x shift) api.RowChange {
	h := &f.shapes[x.table]
	c := api.RowChange{Kind: api.RowUpdate, Table: h.table.Name, Row: x.is}
	if x.was == nil {
		c.Kind = api.RowInsert
		return c
	}
	if x.is == nil {
		c.Kind = api.RowDelete
	}
	c.Key = pick(x.was, h.key)
	return c
}

// deed returns what the commit of the transaction does, with what has become of rows since base.
func (t *Txn) deed(l []shift) deed {
	d := deed{altered: t.altered, touched: marks{}}
	for _, x := range l {
		for _, row := range [][]api.Value{x.was, x.is} {
			if row != nil {
				d.touched.touch(t.base.frame, x.table, row)
			}
		}
	}
	return d
}

// Commit makes the changes of a transaction those of the store.
func (t *Txn) Commit() api.Errno {
	if t.ended {
		return api.ErrState
	}
	conflict, whole := t.hasConflict(), *t
	t.end()
	if conflict {
		return api.ErrConflict
	}
	return whole.commit()
}

// hasConflict reports whether the transaction depends on what others have committed since it began. (One that has changed the structure has noted all tables, so that it depends on each row.)
func (t *Txn) hasConflict() bool {
	return slices.ContainsFunc(t.store.history.since(t.begun), func(x span) bool { return x.altered || t.noted.meets(x.touched) })
}

// commit commits a transaction without a conflict, which is no longer counted as open.
func (t *Txn) commit() api.Errno {
	l := t.shifts()
	next, err := t.merged(l)
	if err != api.OK {
		return err
	}
	t.store.log = addRecord(t.store.log, t.store.Commits()+1, t.body(l))
	t.store.now = next
	t.store.history.add(func() deed { return t.deed(l) })
	return api.OK
}

// merged returns the tables of the store with what has become of rows since base. (Behind a change of structure nobody else has changed a row.)
func (t *Txn) merged(l []shift) (*state, api.Errno) {
	if t.altered || t.store.now == t.start {
		return t.now, api.OK
	}
	return t.store.now.after(mapped(l, func(x shift) write {
		return write{table: x.table, goes: x.was != nil, gone: x.key, comes: x.is != nil, row: x.is, rowKey: x.key}
	}))
}

// Rollback ends a transaction without a change.
func (t *Txn) Rollback() api.Errno {
	if t.ended {
		return api.ErrState
	}
	t.end()
	return api.OK
}

// end ends a transaction, and forgets all that it has seen.
func (t *Txn) end() {
	t.store.history.leave(t.begun)
	*t = Txn{ended: true}
}
