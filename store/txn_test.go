package store_test

import (
	"slices"
	"testing"

	"dumbwaiter/api"
	"dumbwaiter/store"
)

// insert, update and remove are changes of rows.
func insert(table string, r ...api.Value) api.RowChange {
	return api.RowChange{Kind: api.RowInsert, Table: table, Row: r}
}

func update(table string, key []api.Value, r ...api.Value) api.RowChange {
	return api.RowChange{Kind: api.RowUpdate, Table: table, Key: key, Row: r}
}

func remove(table string, key ...api.Value) api.RowChange {
	return api.RowChange{Kind: api.RowDelete, Table: table, Key: key}
}

// P3.8: rows by keys.
func TestGet(t *testing.T) {
	a := stocked(t).Begin()
	if r, err := a.Get("shelf", row(text("left"), integer(2))); err != api.OK || !same(r, stock().Tables[shelves].Rows[1]) {
		t.Error(r, err)
	}
	if r, err := a.Get("item", row(integer(-5))); err != api.OK || !same(r, stock().Tables[items].Rows[0]) {
		t.Error(r, err)
	}
	for _, x := range []struct {
		table string
		key   []api.Value
		want  api.Errno
	}{
		{"shop", nil, api.ErrName}, {"", row(integer(1)), api.ErrName}, {"box", nil, api.ErrForm}, {"shelf", row(text("left")), api.ErrForm}, {"shelf", row(text("left"), integer(1), null), api.ErrForm},
		{"shelf", row(integer(1), null), api.ErrType}, {"shelf", row(null, text("")), api.ErrNull}, {"shelf", row(text(""), text("")), api.ErrType}, {"shelf", row(text(""), null), api.ErrNull}, {"shelf", row(text(long(101)), integer(1)), api.ErrLarge}, {"shelf", row(text("left"), api.Value{Kind: 7}), api.ErrForm}, {"box", row(integer(api.MaxInt + 1)), api.ErrArg},
		{"shelf", row(text("left"), integer(3)), api.ErrNone}, {"shelf", row(text("lef"), integer(1)), api.ErrNone}, {"box", row(integer(5)), api.ErrNone},
	} {
		if r, err := a.Get(x.table, x.key); err != x.want || r != nil {
			t.Error(x, r, err)
		}
	}
}

// P3.8: rows by values of an index.
func TestFind(t *testing.T) {
	a := stocked(t).Begin()
	rows := stock().Tables
	for _, x := range []struct {
		table, index string
		values       []api.Value
		want         [][]api.Value
		err          api.Errno
	}{
		{"item", "byname", row(text("nut")), rows[items].Rows[2:], api.OK}, {"item", "byname", row(text("nut"), integer(5)), rows[items].Rows[2:4], api.OK}, {"item", "byname", row(text("nut"), integer(5), integer(9)), rows[items].Rows[3:4], api.OK},
		{"item", "byname", row(null), rows[items].Rows[:1], api.OK}, {"item", "byname", row(text("pin"), null), rows[items].Rows[1:2], api.OK}, {"item", "byname", row(text("nut"), null), nil, api.OK}, {"item", "byname", row(text("nu")), nil, api.OK},
		{"box", "bysize", row(null), rows[boxes].Rows[2:], api.OK}, {"box", "byseen", row(moment(60), null), rows[boxes].Rows[3:], api.OK}, {"box", "bylabel", row(text("b")), rows[boxes].Rows[1:2], api.OK}, {"box", "byseen", row(null), rows[boxes].Rows[1:3], api.OK},
		{"shop", "byname", nil, nil, api.ErrName}, {"item", "bysize", nil, nil, api.ErrName}, {"item", "up", row(integer(7)), nil, api.ErrName}, {"item", "", nil, nil, api.ErrName},
		{"item", "byname", nil, nil, api.ErrForm}, {"item", "byname", row(text(""), integer(1), integer(1), null), nil, api.ErrForm},
		{"item", "byname", row(integer(1), integer(api.MaxInt+1)), nil, api.ErrType}, {"item", "byname", row(text("é"), text("")), nil, api.ErrArg}, {"item", "byname", row(null, boolean(1)), nil, api.ErrType}, {"item", "byname", row(text(""), integer(-api.MaxInt-1)), nil, api.ErrArg}, {"item", "byname", row(text(""), api.Value{S: "x"}), nil, api.ErrForm},
	} {
		if l, err := a.Find(x.table, x.index, x.values); err != x.err || !same(l, x.want) {
			t.Error(x, l, err)
		}
	}
}

// P3.8: rows that are found are sorted by their key, not by further columns of the index.
func TestFindSortsByKey(t *testing.T) {
	x := stocked(t)
	a := x.Begin()
	must(t, a.Insert("item", row(integer(6), null, null, null, null, text("nut"), integer(9), null)), a.Insert("item", row(integer(11), null, null, null, null, text("nut"), null, null)))
	l, err := a.Find("item", "byname", row(text("nut")))
	if err != api.OK || len(l) != 5 || !slices.IsSortedFunc(l, func(x, y []api.Value) int { return x[0].N - y[0].N }) {
		t.Error(l, err)
	}
}

// P3.8: Scan and Data.
func TestScan(t *testing.T) {
	a := stocked(t).Begin()
	for _, x := range stock().Tables {
		if l, err := a.Scan(x.Table); err != api.OK || !same(l, x.Rows) {
			t.Error(l, err)
		}
	}
	if l, err := a.Scan("Box"); err != api.ErrName || l != nil {
		t.Error(l, err)
	}
	if d, err := a.Data(); err != api.OK || !same(d, stock()) {
		t.Error(d, err)
	}
	if s, err := a.Schema(); err != api.OK || !same(s, depot(t)) {
		t.Error(s, err)
	}
}

// inBatch makes a fault of one of three changes.
func inBatch(spot string, want api.Errno, change func(a, b, c *api.RowChange)) fault[[]api.RowChange] {
	return fault[[]api.RowChange]{spot, func(l *[]api.RowChange) { change(&(*l)[0], &(*l)[1], &(*l)[2]) }, want}
}

// P3.9: errors in their order.
func TestErrorsOfBatch(t *testing.T) {
	l := []api.RowChange{
		insert("box", integer(5), null, text("e"), null, null),
		update("shelf", row(text("right"), integer(1)), text("right"), integer(3), null, boolean(0)),
		remove("item", integer(9)),
	}
	check := func(l []api.RowChange) api.Errno {
		a := stocked(t).Begin()
		err := a.Batch(l)
		if d, _ := a.Data(); err != api.OK && !same(d, stock()) {
			t.Error("changed", l, d)
		}
		return err
	}
	type c = *api.RowChange
	tryFaults(t, l, check, []fault[[]api.RowChange]{
		inBatch("0", api.ErrKind, func(a, b, c c) { a.Kind = 0 }),
		inBatch("0", api.ErrKind, func(a, b, c c) { a.Kind = 4 }),
		inBatch("0 table", api.ErrName, func(a, b, c c) { a.Table = "boxes" }),
		inBatch("0 key", api.ErrForm, func(a, b, c c) { a.Key = row(integer(5)) }),
		inBatch("0 row", api.ErrForm, func(a, b, c c) { a.Row = append(a.Row, null) }),
		inBatch("0 row", api.ErrForm, func(a, b, c c) { a.Row = nil }),
		inBatch("00", api.ErrNull, func(a, b, c c) { a.Row[0] = null }),
		inBatch("00", api.ErrArg, func(a, b, c c) { a.Row[0] = integer(-api.MaxInt - 1) }),
		inBatch("02", api.ErrLarge, func(a, b, c c) { a.Row[2] = text(long(101)) }),
		inBatch("02", api.ErrNull, func(a, b, c c) { a.Row[2] = null }),
		inBatch("04", api.ErrType, func(a, b, c c) { a.Row[4] = integer(1) }),
		inBatch("1", api.ErrKind, func(a, b, c c) { b.Kind = -1 }),
		inBatch("1 table", api.ErrName, func(a, b, c c) { b.Table = "" }),
		inBatch("1 key", api.ErrForm, func(a, b, c c) { b.Key = b.Key[:1] }),
		inBatch("1 key", api.ErrForm, func(a, b, c c) { b.Key = nil }),
		inBatch("1 key", api.ErrType, func(a, b, c c) { b.Key[0] = integer(1) }),
		inBatch("1 key", api.ErrNull, func(a, b, c c) { b.Key[1] = null }),
		inBatch("1 row", api.ErrForm, func(a, b, c c) { b.Row = b.Row[:3] }),
		inBatch("10", api.ErrArg, func(a, b, c c) { b.Row[0] = text("\t") }),
		inBatch("13", api.ErrNull, func(a, b, c c) { b.Row[3] = null }),
		inBatch("13", api.ErrForm, func(a, b, c c) { b.Row[3] = api.Value{Kind: api.Bool, S: "1"} }),
		inBatch("2 row", api.ErrForm, func(a, b, c c) { c.Row = row(null) }),
		inBatch("2 key", api.ErrForm, func(a, b, c c) { c.Key = row(integer(1), integer(2)) }),
		inBatch("2 key", api.ErrNull, func(a, b, c c) { c.Key = row(null) }),
	})
}

// P3.9: errors of items 2 to 6, and what is one change.
func TestBatch(t *testing.T) {
	many := []api.RowChange{insert("shelf", text("left"), integer(1), null, boolean(0))}
	for i := range api.MaxRows - 3 {
		many = append(many, insert("shelf", text("more"), integer(i), null, boolean(0)))
	}
	for i, x := range []struct {
		l    []api.RowChange
		want api.Errno
	}{
		{nil, api.OK},
		// The same key twice, also if there is no such row, or too many, or more is wrong.
		{[]api.RowChange{remove("item", integer(99)), remove("item", integer(99))}, api.ErrTwice},
		{[]api.RowChange{remove("box", integer(98)), update("item", row(integer(9)), integer(9), null, null, null, null, null, null, null), remove("item", integer(9))}, api.ErrTwice},
		{append(slices.Clone(many), remove("box", integer(1)), remove("box", integer(1))), api.ErrTwice},
		{[]api.RowChange{remove("item", integer(10)), remove("box", integer(4))}, api.OK},
		{append(slices.Clone(many), remove("box", integer(10))), api.ErrNone},
		{[]api.RowChange{insert("shelf", text("left"), integer(1), null, boolean(0)), remove("item", integer(11))}, api.ErrNone},
		// A row that comes cannot go.
		{[]api.RowChange{insert("box", integer(5), null, text("e"), null, null), remove("box", integer(5))}, api.ErrNone},
		{many, api.ErrLarge},
		{many[:len(many)-1], api.ErrKey},
		{many[1:], api.OK},
		{append(slices.Clone(many[1:]), insert("shelf", text("less"), integer(0), null, boolean(0)), remove("shelf", text("right"), integer(1))), api.OK},
		{append(slices.Clone(many[1:]), insert("shelf", text("less"), integer(0), null, boolean(0))), api.ErrLarge},
		// Keys and unique values, ahead of references.
		{[]api.RowChange{insert("box", integer(4), null, text("e"), null, null)}, api.ErrKey},
		{[]api.RowChange{insert("box", integer(5), null, text("d"), null, null)}, api.ErrKey},
		{[]api.RowChange{insert("box", integer(5), null, text("e"), null, moment(60))}, api.OK},
		{[]api.RowChange{insert("box", integer(5), integer(10), text("e"), null, moment(60))}, api.ErrKey},
		{[]api.RowChange{insert("box", integer(5), integer(10), text("e"), null, null)}, api.OK},
		{[]api.RowChange{insert("box", integer(5), null, text("e"), null, null), insert("box", integer(5), null, text("f"), null, null)}, api.ErrKey},
		{[]api.RowChange{insert("box", integer(5), null, text("e"), null, null), insert("box", integer(6), null, text("e"), null, null)}, api.ErrKey},
		{[]api.RowChange{remove("box", integer(1)), insert("box", integer(4), null, text("e"), null, null)}, api.ErrKey},
		{[]api.RowChange{update("box", row(integer(3)), integer(4), null, text("c"), null, null)}, api.ErrKey},
		{[]api.RowChange{update("box", row(integer(3)), integer(3), null, text("d"), null, null)}, api.ErrKey},
		{[]api.RowChange{update("box", row(integer(3)), integer(3), null, text("c"), null, null)}, api.OK},
		// Keys are exchanged, and so are unique values.
		{[]api.RowChange{update("box", row(integer(3)), integer(4), null, text("d"), null, null), update("box", row(integer(4)), integer(3), null, text("c"), null, null)}, api.OK},
		{[]api.RowChange{remove("box", integer(4)), insert("box", integer(4), null, text("d"), null, null)}, api.OK},
		// References: of rows that come, and to rows that go.
		{[]api.RowChange{insert("item", integer(1), integer(5), null, null, null, null, null, null)}, api.ErrRef},
		{[]api.RowChange{insert("item", integer(1), integer(5), null, null, null, null, null, null), insert("box", integer(5), null, text("e"), null, null)}, api.OK},
		{[]api.RowChange{insert("item", integer(1), null, null, text("none"), null, null, null, null)}, api.OK},
		{[]api.RowChange{insert("item", integer(1), null, null, text("none"), integer(1), null, null, null)}, api.ErrRef},
		{[]api.RowChange{insert("item", integer(1), null, integer(1), null, null, null, null, null)}, api.OK},
		{[]api.RowChange{insert("item", integer(1), null, integer(2), null, null, null, null, null), insert("item", integer(2), null, integer(1), null, null, null, null, null)}, api.OK},
		{[]api.RowChange{remove("box", integer(2))}, api.ErrRef}, {[]api.RowChange{remove("box", integer(3))}, api.OK}, {[]api.RowChange{remove("shelf", text("left"), integer(1))}, api.OK}, {[]api.RowChange{remove("shelf", text("left"), integer(2))}, api.ErrRef},
		{[]api.RowChange{remove("item", integer(7))}, api.ErrRef}, {[]api.RowChange{remove("item", integer(9))}, api.OK}, {[]api.RowChange{remove("item", integer(7)), remove("item", integer(-5)), remove("item", integer(8))}, api.OK},
		{[]api.RowChange{update("item", row(integer(7)), integer(6), null, integer(6), null, null, null, null, null)}, api.ErrRef},
		{[]api.RowChange{remove("box", integer(1)), update("box", row(integer(3)), integer(1), null, text("c"), null, null)}, api.OK},
		{[]api.RowChange{remove("box", integer(1)), remove("item", integer(9)), update("item", row(integer(10)), integer(10), integer(2), null, null, null, null, null, null)}, api.OK},
	} {
		a := stocked(t).Begin()
		before, _ := a.Data()
		if err := a.Batch(x.l); err != x.want {
			t.Error(i, x.want, err)
		}
		want, err := changed(depot(t), stock(), x.l)
		if x.want != api.OK {
			want = before
		} else if err != api.OK {
			t.Error(i, err)
		}
		if after, err := a.Data(); err != api.OK || !same(after, want) {
			t.Error(i, after)
		}
	}
}

// P3.7: a transaction sees the tables as they were, and its own changes, also those of structure.
func TestWhatTransactionsSee(t *testing.T) {
	x := stocked(t)
	a, b := x.Begin(), x.Begin()
	must(t, a.Alter(api.Change{Kind: api.ChRename, Table: "shelf", Name: "board"}), a.Delete("board", row(text("right"), integer(1))), a.Insert("board", row(text("x"), integer(1), null, boolean(1))))
	if _, err := a.Scan("shelf"); err != api.ErrName {
		t.Error(err)
	}
	if err := a.Insert("shelf", row(text("y"), integer(1), null, boolean(1))); err != api.ErrName {
		t.Error(err)
	}
	if l, err := a.Scan("board"); err != api.OK || len(l) != 3 || l[2][0] != text("x") {
		t.Error(l, err)
	}
	must(t, a.Commit())
	if d, err := b.Data(); err != api.OK || !same(d, stock()) || x.Data().Tables[0].Table != "board" {
		t.Error(d, err)
	}
	if s, err := b.Schema(); err != api.OK || !same(s, depot(t)) || same(x.Schema(), s) {
		t.Error(s, err)
	}
	if d := x.Data(); len(d.Tables[0].Rows) != 3 || d.Tables[0].Rows[2][0] != text("x") {
		t.Error(d)
	}
}

// P3.7: behind the end of a transaction.
func TestEndOfTransaction(t *testing.T) {
	for i, end := range []func(x *store.Store) *store.Txn{
		func(x *store.Store) *store.Txn { a := x.Begin(); must(t, a.Commit()); return a },
		func(x *store.Store) *store.Txn { a := x.Begin(); must(t, a.Rollback()); return a },
		func(x *store.Store) *store.Txn {
			a, b := x.Begin(), x.Begin()
			must(t, a.Alter(api.Change{Kind: api.ChDrop, Table: "item"}), a.Commit())
			if err := b.Commit(); err != api.ErrConflict {
				t.Error(err)
			}
			return b
		},
	} {
		x := stocked(t)
		a := end(x)
		commits, log := x.Commits(), x.Log()
		s, e1 := a.Schema()
		d, e2 := a.Data()
		r, e3 := a.Get("none", nil)
		l, e4 := a.Scan("none")
		m, e5 := a.Find("box", "bylabel", row(text("a")))
		if !same(s, api.Schema{}) || !same(d, api.Data{}) || r != nil || l != nil || m != nil {
			t.Error(i, s, d, r, l, m)
		}
		for k, err := range []api.Errno{e1, e2, e3, e4, e5, a.Insert("box", row(integer(5), null, text("e"), null, null)), a.Update("none", nil, nil), a.Delete("none", nil), a.Batch(nil), a.Batch(make([]api.RowChange, 1)), a.Alter(api.Change{}), a.Commit(), a.Rollback(), a.Commit()} {
			if err != api.ErrState {
				t.Error(i, k, err)
			}
		}
		if x.Commits() != commits || !same(x.Log(), log) {
			t.Error(i, x.Commits())
		}
	}
}
