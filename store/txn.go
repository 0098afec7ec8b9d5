package store

import (
	"slices"

	"dumbwaiter/api"
	"dumbwaiter/clone"
	"dumbwaiter/value"
)

// Txn is a transaction.
type Txn struct {
	store   *Store
	ended   bool
	begun   int    // the number of commits at its beginning
	start   *state // at its beginning
	base    *state // behind its last change of structure
	now     *state
	altered bool
	noted   marks
	written map[spot]bool // where rows may have changed since base
	before  writer        // what its record says about all up to base
}

// Schema returns the schema.
func (t *Txn) Schema() (api.Schema, api.Errno) {
	if t.ended {
		return api.Schema{}, api.ErrState
	}
	return clone.Schema(t.now.frame.schema), api.OK
}

// Data returns all rows.
func (t *Txn) Data() (api.Data, api.Errno) {
	if t.ended {
		return api.Data{}, api.ErrState
	}
	t.noted.noteTables(t.now.frame)
	return t.now.data(), api.OK
}

// table returns the number and the shape of a table.
func (t *Txn) table(name string) (int, *shape, api.Errno) {
	if t.ended {
		return 0, nil, api.ErrState
	}
	number, there := t.now.frame.numbers[name]
	if !there {
		return 0, nil, api.ErrName
	}
	return number, &t.now.frame.shapes[number], api.OK
}

// Get returns the row with a key.
func (t *Txn) Get(table string, key []api.Value) ([]api.Value, api.Errno) {
	number, h, err := t.table(table)
	if err == api.OK {
		err = h.checkKey(key)
	}
	if err != api.OK {
		return nil, err
	}
	bytes := string(value.Key(key))
	t.noted[mark{about: onKey, table: number, values: bytes}] = true
	row := t.now.get(number, bytes)
	if row == nil {
		return nil, api.ErrNone
	}
	return clone.Row(row), api.OK
}

// Scan returns all rows of a table.
func (t *Txn) Scan(table string) ([][]api.Value, api.Errno) {
	number, _, err := t.table(table)
	if err != api.OK {
		return nil, err
	}
	t.noted[mark{about: onTable, table: number}] = true
	return clone.Rows(t.now.rows(number)), api.OK
}

// Find returns the rows with some values of an index.
func (t *Txn) Find(table, index string, values []api.Value) ([][]api.Value, api.Errno) {
	number, h, err := t.table(table)
	if err != api.OK {
		return nil, err
	}
	part := slices.IndexFunc(h.table.Indexes, func(x api.Index) bool { return x.Name == index })
	if part < 0 {
		return nil, api.ErrName
	}
	if err := h.checkIndexed(part, values); err != api.OK {
		return nil, err
	}
	bytes := string(value.Key(values))
	t.noted[mark{onIndex, number, part, bytes}] = true
	var found []*node
	t.now.heaps[number][h.indexTree(part)].under(bytes, func(_ string, row []api.Value) bool {
		found = append(found, joined(nil, h.keyOf(row), row, nil))
		return true
	})
	return mapped(sorted(found), func(n *node) []api.Value { return clone.Row(n.row) }), api.OK
}

// checkIndexed checks values of the first columns of an index.
func (h *shape) checkIndexed(index int, values []api.Value) api.Errno {
	places := h.indexes[index]
	if len(values) == 0 || len(values) > len(places) {
		return api.ErrForm
	}
	for i, v := range values {
		if err := value.Check(h.table.Columns[places[i]].Kind, v); err != api.OK {
			return err
		}
	}
	return api.OK
}

// Insert inserts a row.
func (t *Txn) Insert(table string, row []api.Value) api.Errno {
	return t.Batch([]api.RowChange{{Kind: api.RowInsert, Table: table, Row: row}})
}

// Update changes a row.
func (t *Txn) Update(table string, key, row []api.Value) api.Errno {
	return t.Batch([]api.RowChange{{Kind: api.RowUpdate, Table: table, Key: key, Row: row}})
}

// Delete deletes a row.
func (t *Txn) Delete(table string, key []api.Value) api.Errno {
	return t.Batch([]api.RowChange{{Kind: api.RowDelete, Table: table, Key: key}})
}

// Batch makes several changes of rows as one.
func (t *Txn) Batch(l []api.RowChange) api.Errno {
	if t.ended {
		return api.ErrState
	}
	writes, err := t.now.frame.writes(l)
	if err != api.OK {
		return err
	}
	for _, w := range writes {
		t.noted.noteWrite(t.now.frame, w)
	}
	next, err := t.now.after(writes)
	if err != api.OK {
		return err
	}
	t.now = next
	for _, w := range writes {
		if w.goes {
			t.written[spot{w.table, w.gone}] = true
		}
		if w.comes {
			t.written[spot{w.table, w.rowKey}] = true
		}
	}
	return api.OK
}

// Alter changes the structure.
func (t *Txn) Alter(c api.Change) api.Errno {
	if t.ended {
		return api.ErrState
	}
	t.noted.noteTables(t.now.frame)
	next, err := t.now.altered(c)
	if err != api.OK {
		return err
	}
	t.before.shifts(t.base.frame, t.shifts())
	t.before.change(c)
	t.base, t.now, t.altered = next, next, true
	clear(t.written)
	return api.OK
}
