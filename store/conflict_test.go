package store_test

import (
	"testing"

	"dumbwaiter/api"
	"dumbwaiter/store"
)

// meeting is a call that notes, a change that another transaction commits, and what the commit then says.
type meeting struct {
	notes func(a *store.Txn) api.Errno
	err   api.Errno // of notes
	other []api.RowChange
	want  api.Errno
}

// tryMeetings tries each of some meetings.
func tryMeetings(t *testing.T, l []meeting) {
	t.Helper()
	for i, x := range l {
		s := stocked(t)
		a, b := s.Begin(), s.Begin()
		if err := x.notes(a); err != x.err {
			t.Error(i, err)
		}
		must(t, b.Batch(x.other), b.Commit())
		if err := a.Commit(); err != x.want {
			t.Error(i, "commit", err)
		}
		if commits := s.Commits(); x.want == api.OK && commits != 3 || x.want != api.OK && commits != 2 {
			t.Error(i, commits)
		}
	}
}

// nail is an item with a name and a number.
func nail(id, n int) []api.Value {
	return row(integer(id), null, null, null, null, text("nail"), integer(n), null)
}

// P3.11: what calls that read note.
func TestConflictsOfReads(t *testing.T) {
	get := func(table string, key ...api.Value) func(a *store.Txn) api.Errno {
		return func(a *store.Txn) api.Errno { _, err := a.Get(table, key); return err }
	}
	find := func(table, index string, values ...api.Value) func(a *store.Txn) api.Errno {
		return func(a *store.Txn) api.Errno { _, err := a.Find(table, index, values); return err }
	}
	scan := func(table string) func(a *store.Txn) api.Errno {
		return func(a *store.Txn) api.Errno { _, err := a.Scan(table); return err }
	}
	nine := update("item", row(integer(9)), integer(9), null, null, null, null, text("nail"), integer(6), null)
	nineMoves := update("item", row(integer(9)), integer(12), integer(1), null, null, integer(9), text("nut"), integer(5), boolean(1))
	nineStays := update("item", row(integer(9)), stock().Tables[items].Rows[3]...)
	tryMeetings(t, []meeting{
		{get("item", integer(9)), api.OK, []api.RowChange{nine}, api.ErrConflict}, {get("item", integer(9)), api.OK, []api.RowChange{nineMoves}, api.ErrConflict}, {get("item", integer(9)), api.OK, []api.RowChange{nineStays}, api.OK}, {get("item", integer(9)), api.OK, []api.RowChange{remove("item", integer(9))}, api.ErrConflict},
		{get("item", integer(10)), api.OK, []api.RowChange{nine}, api.OK}, {get("box", integer(1)), api.OK, []api.RowChange{nine}, api.OK}, {get("item", integer(12)), api.ErrNone, []api.RowChange{nineMoves}, api.ErrConflict}, {get("item", integer(12)), api.ErrNone, []api.RowChange{insert("item", nail(12, 1)...)}, api.ErrConflict}, {get("item", integer(12)), api.ErrNone, []api.RowChange{insert("item", nail(13, 1)...)}, api.OK},
		// A key that is no key notes nothing.
		{get("item", null), api.ErrNull, []api.RowChange{nine}, api.OK}, {get("none"), api.ErrName, []api.RowChange{nine}, api.OK},
		{scan("item"), api.OK, []api.RowChange{nine}, api.ErrConflict}, {scan("item"), api.OK, []api.RowChange{nineStays}, api.OK}, {scan("item"), api.OK, []api.RowChange{insert("item", nail(12, 1)...)}, api.ErrConflict}, {scan("box"), api.OK, []api.RowChange{nine}, api.OK}, {scan("none"), api.ErrName, []api.RowChange{nine}, api.OK},
		{func(a *store.Txn) api.Errno { _, err := a.Data(); return err }, api.OK, []api.RowChange{nine}, api.ErrConflict}, {func(a *store.Txn) api.Errno { _, err := a.Data(); return err }, api.OK, []api.RowChange{remove("box", integer(3))}, api.ErrConflict}, {func(a *store.Txn) api.Errno { _, err := a.Data(); return err }, api.OK, []api.RowChange{nineStays}, api.OK},
		{func(a *store.Txn) api.Errno { _, err := a.Schema(); return err }, api.OK, []api.RowChange{nine}, api.OK},
		// The row as it was, and as it is; each list of first columns, with nulls too.
		{find("item", "byname", text("nut")), api.OK, []api.RowChange{nine}, api.ErrConflict}, {find("item", "byname", text("nail")), api.OK, []api.RowChange{nine}, api.ErrConflict}, {find("item", "byname", text("nai")), api.OK, []api.RowChange{nine}, api.OK}, {find("item", "byname", text("pin")), api.OK, []api.RowChange{nine}, api.OK},
		{find("item", "byname", text("nut"), integer(5)), api.OK, []api.RowChange{nine}, api.ErrConflict}, {find("item", "byname", text("nut"), integer(4)), api.OK, []api.RowChange{nine}, api.OK}, {find("item", "byname", text("nail"), integer(6)), api.OK, []api.RowChange{nine}, api.ErrConflict}, {find("item", "byname", text("nail"), integer(5)), api.OK, []api.RowChange{nine}, api.OK}, {find("item", "byname", text("nut"), integer(6)), api.OK, []api.RowChange{nine}, api.OK},
		{find("item", "byname", text("nail"), integer(6), integer(9)), api.OK, []api.RowChange{nine}, api.ErrConflict}, {find("item", "byname", text("nail"), integer(6), integer(8)), api.OK, []api.RowChange{nine}, api.OK},
		{find("item", "byname", null), api.OK, []api.RowChange{nine}, api.OK}, {find("box", "byseen", null), api.OK, []api.RowChange{remove("box", integer(3))}, api.ErrConflict}, {find("box", "byseen", null, null), api.OK, []api.RowChange{remove("box", integer(3))}, api.ErrConflict}, {find("box", "byseen", moment(60), null), api.OK, []api.RowChange{remove("box", integer(3))}, api.OK}, {find("box", "bysize", null, text("d")), api.OK, []api.RowChange{remove("box", integer(3))}, api.OK},
		{find("item", "byname", text("nut"), text("")), api.ErrType, []api.RowChange{nine}, api.OK}, {find("box", "byseen", text("")), api.ErrType, []api.RowChange{remove("box", integer(3))}, api.OK}, {find("item", "byname"), api.ErrForm, []api.RowChange{nine}, api.OK},
		// A row that differs only in a column without an index touches all of what it has.
		{find("item", "byname", text("nut"), integer(5), integer(9)), api.OK, []api.RowChange{update("item", row(integer(9)), integer(9), null, null, null, null, text("nut"), integer(5), boolean(1))}, api.ErrConflict},
	})
}

// P3.11: what Batch notes, also if it returns an error, but for one of item 1.
func TestConflictsOfWrites(t *testing.T) {
	batch := func(l ...api.RowChange) func(a *store.Txn) api.Errno {
		return func(a *store.Txn) api.Errno { return a.Batch(l) }
	}
	boxOf := func(id int, size api.Value, label string, seen api.Value) []api.Value {
		return row(integer(id), size, text(label), null, seen)
	}
	in := func(id int, box api.Value) []api.Value {
		return row(integer(id), box, null, null, null, null, null, null)
	}
	on := func(id int, place api.Value) []api.Value {
		return row(integer(id), null, null, text("right"), place, null, null, null)
	}
	tryMeetings(t, []meeting{
		// Keys.
		{batch(insert("item", nail(12, 1)...)), api.OK, []api.RowChange{insert("item", nail(12, 2)...)}, api.ErrConflict},
		{batch(insert("item", nail(9, 1)...)), api.ErrKey, []api.RowChange{remove("item", integer(9))}, api.ErrConflict},
		{batch(remove("item", integer(12))), api.ErrNone, []api.RowChange{insert("item", nail(12, 2)...)}, api.ErrConflict},
		{batch(remove("item", integer(9))), api.OK, []api.RowChange{update("item", row(integer(9)), nail(9, 1)...)}, api.ErrConflict},
		{batch(update("item", row(integer(9)), nail(9, 1)...)), api.OK, []api.RowChange{remove("item", integer(9))}, api.ErrConflict},
		{batch(update("item", row(integer(9)), nail(12, 1)...)), api.OK, []api.RowChange{remove("item", integer(9))}, api.ErrConflict},
		{batch(update("item", row(integer(9)), nail(12, 1)...)), api.OK, []api.RowChange{insert("item", nail(12, 2)...)}, api.ErrConflict},
		{batch(update("item", row(integer(9)), nail(9, 1)...)), api.OK, []api.RowChange{remove("item", integer(10))}, api.OK},
		{batch(remove("item", integer(9)), remove("item", integer(9))), api.ErrTwice, []api.RowChange{remove("item", integer(9))}, api.ErrConflict},
		// Nothing of a batch with an error of item 1.
		{batch(insert("item", nail(12, 1)...), api.RowChange{}), api.ErrKind, []api.RowChange{insert("item", nail(12, 2)...)}, api.OK},
		{batch(remove("item", integer(9)), remove("item", null)), api.ErrNull, []api.RowChange{remove("item", integer(9))}, api.OK},
		// Unique values: all of them, if none is null.
		{batch(insert("box", boxOf(5, null, "e", null)...)), api.OK, []api.RowChange{insert("box", boxOf(6, null, "e", null)...)}, api.ErrConflict},
		{batch(insert("box", boxOf(5, null, "a", null)...)), api.ErrKey, []api.RowChange{update("box", row(integer(1)), boxOf(1, null, "e", null)...)}, api.ErrConflict},
		{batch(update("box", row(integer(3)), boxOf(3, null, "e", null)...)), api.OK, []api.RowChange{insert("box", boxOf(6, null, "e", null)...)}, api.ErrConflict},
		{batch(insert("box", boxOf(5, integer(1), "e", moment(1))...)), api.OK, []api.RowChange{insert("box", boxOf(6, integer(1), "f", moment(1))...)}, api.ErrConflict},
		{batch(insert("box", boxOf(5, integer(1), "e", moment(1))...)), api.OK, []api.RowChange{insert("box", boxOf(6, integer(2), "f", moment(1))...)}, api.OK},
		{batch(insert("box", boxOf(5, null, "e", moment(1))...)), api.OK, []api.RowChange{insert("box", boxOf(6, null, "f", moment(1))...)}, api.OK},
		// Values of an index that is not unique.
		{batch(insert("item", nail(12, 1)...)), api.OK, []api.RowChange{insert("item", nail(13, 1)...)}, api.OK},
		// Rows to which a row refers.
		{batch(insert("item", in(12, integer(3))...)), api.OK, []api.RowChange{remove("box", integer(3))}, api.ErrConflict},
		{batch(insert("item", in(12, integer(3))...)), api.OK, []api.RowChange{update("box", row(integer(3)), boxOf(3, integer(1), "c", null)...)}, api.ErrConflict},
		{batch(insert("item", in(12, integer(3))...)), api.OK, []api.RowChange{remove("box", integer(4))}, api.OK},
		{batch(insert("item", in(12, integer(5))...)), api.ErrRef, []api.RowChange{insert("box", boxOf(5, null, "e", null)...)}, api.ErrConflict},
		{batch(update("item", row(integer(9)), in(9, integer(3))...)), api.OK, []api.RowChange{remove("box", integer(3))}, api.ErrConflict},
		{batch(insert("item", in(12, null)...)), api.OK, []api.RowChange{remove("box", integer(3))}, api.OK},
		{batch(insert("item", on(12, integer(1))...)), api.OK, []api.RowChange{remove("shelf", text("right"), integer(1))}, api.ErrConflict},
		{batch(insert("item", on(12, null)...)), api.OK, []api.RowChange{remove("shelf", text("right"), integer(1))}, api.OK},
		// Rows that refer to one that goes, or that has a change.
		{batch(remove("box", integer(3))), api.OK, []api.RowChange{insert("item", in(12, integer(3))...)}, api.ErrConflict},
		{batch(remove("box", integer(1))), api.ErrRef, []api.RowChange{remove("item", integer(9)), remove("item", integer(10))}, api.ErrConflict},
		{batch(update("box", row(integer(3)), boxOf(3, integer(1), "c", null)...)), api.OK, []api.RowChange{update("item", row(integer(9)), in(9, integer(3))...)}, api.ErrConflict},
		{batch(remove("box", integer(3))), api.OK, []api.RowChange{insert("item", in(12, integer(4))...)}, api.OK},
		{batch(remove("shelf", text("right"), integer(1))), api.OK, []api.RowChange{insert("item", on(12, integer(1))...)}, api.ErrConflict},
		{batch(remove("shelf", text("right"), integer(1))), api.OK, []api.RowChange{insert("item", on(12, null)...)}, api.OK},
		{batch(insert("box", boxOf(5, null, "e", null)...)), api.OK, []api.RowChange{insert("item", in(12, integer(4))...)}, api.OK},
		{batch(), api.OK, []api.RowChange{remove("item", integer(9))}, api.OK},
	})
}

// P3.12: changes of structure.
func TestConflictsOfStructure(t *testing.T) {
	change := api.Change{Kind: api.ChUnindex, Table: "item", Name: "byname"}
	twice := api.Change{Kind: api.ChIndex, Table: "item", Index: api.Index{Name: "x", Columns: []string{"name"}, Unique: true}}
	alter := func(c api.Change) func(a *store.Txn) api.Errno {
		return func(a *store.Txn) api.Errno { return a.Alter(c) }
	}
	nothing := func(*store.Txn) api.Errno { return api.OK }
	write := func(l ...api.RowChange) func(a *store.Txn) api.Errno {
		return func(a *store.Txn) api.Errno { return a.Batch(l) }
	}
	nine := stock().Tables[items].Rows[3]
	for i, x := range []struct {
		first, second func(a *store.Txn) api.Errno
		err, want     api.Errno // of second, and of its commit
	}{
		{alter(change), nothing, api.OK, api.ErrConflict}, {alter(change), alter(change), api.OK, api.ErrConflict}, {alter(change), write(remove("item", integer(9))), api.OK, api.ErrConflict},
		// Changes of structure that end where they began, or that fail.
		{func(a *store.Txn) api.Errno {
			must(t, a.Alter(api.Change{Kind: api.ChRename, Table: "item", Name: "z"}), a.Alter(api.Change{Kind: api.ChRename, Table: "z", Name: "item"}))
			return api.OK
		}, nothing, api.OK, api.ErrConflict},
		{func(a *store.Txn) api.Errno {
			if err := a.Alter(twice); err != api.ErrKey {
				t.Error(err)
			}
			return api.OK
		}, nothing, api.OK, api.OK},
		{nothing, alter(change), api.OK, api.OK}, {write(remove("box", integer(3))), alter(change), api.OK, api.ErrConflict}, {write(update("item", row(integer(9)), nine...)), alter(change), api.OK, api.OK}, {write(remove("item", integer(9)), insert("item", nine...)), alter(change), api.OK, api.OK},
		// What fails notes all tables all the same.
		{write(remove("box", integer(3))), alter(twice), api.ErrKey, api.ErrConflict}, {write(remove("box", integer(3))), alter(api.Change{}), api.ErrKind, api.ErrConflict}, {nothing, alter(twice), api.ErrKey, api.OK}, {write(update("item", row(integer(9)), nine...)), alter(twice), api.ErrKey, api.OK},
	} {
		s := stocked(t)
		a, b := s.Begin(), s.Begin()
		must(t, x.first(a))
		if err := x.second(b); err != x.err {
			t.Error(i, err)
		}
		must(t, a.Commit())
		if err := b.Commit(); err != x.want {
			t.Error(i, "commit", err)
		}
	}
}

// P3.12: only commits behind Begin are asked, whichever transactions are open besides.
func TestConflictsSinceBegin(t *testing.T) {
	want := []api.Errno{api.ErrConflict, api.ErrConflict, api.ErrConflict, api.ErrConflict, api.OK, api.OK}
	for _, order := range [][]int{{0, 1, 2, 3, 4, 5}, {5, 4, 3, 2, 1, 0}, {3, 0, 5, 4, 1, 2}} {
		s := stocked(t)
		var open []*store.Txn
		for i := range want {
			a, b := s.Begin(), s.Begin()
			open = append(open, a)
			_, err := a.Get("box", row(integer(1+i%2)))
			must(t, err)
			id := integer(1 + i%3)
			must(t, b.Update("box", row(id), row(id, integer(20+i), text("x"+string(rune('a'+i))), null, null)), b.Commit())
		}
		for _, at := range order {
			if err := open[at].Commit(); err != want[at] {
				t.Error(order, at, err)
			}
			a := s.Begin()
			_, err := a.Scan("box")
			must(t, err, a.Commit())
		}
	}
}

// P3.12: the changes are made to the tables as they are; those of others stay.
func TestCommitsMeet(t *testing.T) {
	s := stocked(t)
	a, b, c := s.Begin(), s.Begin(), s.Begin()
	must(t, a.Insert("item", nail(12, 1)), b.Delete("item", row(integer(10))), c.Update("item", row(integer(9)), row(integer(13), null, null, null, null, null, null, null)))
	must(t, b.Commit(), a.Commit(), c.Commit())
	want, err := changed(depot(t), stock(), []api.RowChange{insert("item", nail(12, 1)...), remove("item", integer(10)), update("item", row(integer(9)), integer(13), null, null, null, null, null, null, null)})
	if must(t, err); !same(s.Data(), want) {
		t.Error(s.Data())
	}
	d := s.Begin()
	if l, err := d.Find("item", "byname", row(text("nail"))); err != api.OK || len(l) != 1 {
		t.Error(l, err)
	}
}

// P3.12: ErrLarge, behind which nothing has changed; and ErrConflict ahead of it.
func TestCommitOfTooManyRows(t *testing.T) {
	shelf := func(name string, i int) api.RowChange {
		return insert("shelf", text(name), integer(i), null, boolean(0))
	}
	var many, few []api.RowChange
	for i := range api.MaxRows - 5 {
		many = append(many, shelf("a", i))
	}
	for i := range 3 {
		few = append(few, shelf("b", i))
	}
	s := stocked(t)
	a, b, c, d := s.Begin(), s.Begin(), s.Begin(), s.Begin()
	must(t, a.Batch(many), b.Batch(few[:2]), c.Batch(few), d.Batch(few), c.Delete("item", row(integer(9))), a.Commit())
	_, err := d.Scan("shelf")
	must(t, err)
	data, log := s.Data(), s.Log()
	if err := c.Commit(); err != api.ErrLarge || !same(s.Data(), data) || !same(s.Log(), log) || s.Commits() != 2 {
		t.Error(err)
	}
	if err := c.Commit(); err != api.ErrState {
		t.Error(err)
	}
	if err := d.Commit(); err != api.ErrConflict {
		t.Error(err)
	}
	must(t, b.Commit())
	if n := len(s.Data().Tables[shelves].Rows); n != api.MaxRows || s.Commits() != 3 {
		t.Error(n)
	}
}
