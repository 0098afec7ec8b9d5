package store

import (
	"testing"

	"dumbwaiter/api"
	"dumbwaiter/clone"
	"dumbwaiter/schema"
	"dumbwaiter/value"
)

func integer(n int) api.Value { return api.Value{Kind: api.Int, N: n} }

// person is a row of the table of TestBodies.
func person(id int, name string) []api.Value {
	return []api.Value{integer(id), {Kind: api.Text, S: name}}
}

// rows writes changes of rows.
func rows(l ...api.RowChange) func(w *writer) {
	return func(w *writer) { writeList(w, l, w.rowChange) }
}

// structure writes a change of structure.
func structure(c api.Change) func(w *writer) { return func(w *writer) { w.change(c) } }

// P3.6: of bodies that have the right form, only those that a commit writes are read: with each row once, in order, as far as it changes.
func TestBodies(t *testing.T) {
	s, err := schema.SchemaRead("table person\ncolumn id int\ncolumn name text\nkey id\nunique name name\ntable pet\ncolumn id int\ncolumn owner int null\nkey id\nforeign owner person owner\n")
	if err != api.OK {
		t.Fatal(err)
	}
	insert := func(id int, name string) api.RowChange {
		return api.RowChange{Kind: api.RowInsert, Table: "person", Row: person(id, name)}
	}
	update := func(id, to int, name string) api.RowChange {
		return api.RowChange{Kind: api.RowUpdate, Table: "person", Key: []api.Value{integer(id)}, Row: person(to, name)}
	}
	remove := func(id int) api.RowChange {
		return api.RowChange{Kind: api.RowDelete, Table: "person", Key: []api.Value{integer(id)}}
	}
	pet := func(id, owner int) api.RowChange {
		return api.RowChange{Kind: api.RowInsert, Table: "pet", Row: []api.Value{integer(id), integer(owner)}}
	}
	rename := structure(api.Change{Kind: api.ChRename, Table: "pet", Name: "cat"})
	for i, x := range []struct {
		parts []func(w *writer)
		want  bool
	}{
		{[]func(w *writer){rows()}, true},
		{[]func(w *writer){rows(insert(3, "c"))}, true},
		{[]func(w *writer){rows(update(1, 1, "c"), remove(2), insert(3, "b"), insert(4, "a"), pet(1, 1), pet(2, 4))}, true},
		{[]func(w *writer){rows(remove(2)), rename, rows(remove(1))}, true},
		{[]func(w *writer){rows(), rename, rows()}, true},
		{[]func(w *writer){rows(), rename, rows(), structure(api.Change{Kind: api.ChRename, Table: "cat", Name: "pet"}), rows()}, true},
		// Another order, rows that stay or that change twice, and keys that change.
		{[]func(w *writer){rows(insert(4, "d"), insert(3, "c"))}, false},
		{[]func(w *writer){rows(pet(1, 1), insert(3, "c"))}, false},
		{[]func(w *writer){rows(update(1, 1, "a"))}, false},
		{[]func(w *writer){rows(remove(1), insert(1, "x"))}, false},
		{[]func(w *writer){rows(update(1, 3, "a"))}, false},
		// Changes that fail.
		{[]func(w *writer){rows(insert(1, "c"))}, false},
		{[]func(w *writer){rows(insert(3, "a"))}, false},
		{[]func(w *writer){rows(remove(3))}, false},
		{[]func(w *writer){rows(pet(1, 9))}, false},
		{[]func(w *writer){rows(), structure(api.Change{Kind: api.ChDrop, Table: "person"}), rows()}, false},
		{[]func(w *writer){rows(), structure(api.Change{}), rows()}, false},
		{[]func(w *writer){rows(), rename, rows(pet(1, 1))}, false},
		// Parts that are missing, or too many.
		{nil, false},
		{[]func(w *writer){rename}, false},
		{[]func(w *writer){rows(), rename}, false},
		{[]func(w *writer){rows(), rows()}, false},
		{[]func(w *writer){rows(), rename, rows(), rows()}, false},
		{[]func(w *writer){rows(), func(w *writer) { w.number(0) }}, false},
		{[]func(w *writer){func(w *writer) { w.number(-1) }}, false},
		{[]func(w *writer){func(w *writer) { w.number(1) }}, false},
		{[]func(w *writer){func(w *writer) { w.number(api.MaxInt) }}, false},
		{[]func(w *writer){func(w *writer) { w.text("") }}, false},
		{[]func(w *writer){func(w *writer) {
			w.number(1)
			w.number(api.RowDelete)
			w.text("person")
			w.number(api.MaxInt)
		}}, false},
	} {
		var w writer
		for _, part := range x.parts {
			part(&w)
		}
		st := begun(clone.Schema(s), "")
		a := st.Begin()
		if err := a.Batch([]api.RowChange{insert(1, "a"), insert(2, "b")}); err != api.OK {
			t.Fatal(err)
		}
		a.Commit()
		if got := st.repeat(w.bytes()); got != x.want || st.Commits() != 1 && !x.want || st.Commits() != 2 && x.want {
			t.Error(i, got, st.Commits())
		}
	}
}

// P3.5: a body tells a change of structure with all of its fields.
func TestChangesInBodies(t *testing.T) {
	c := api.Change{
		Kind: 3, Table: "a", Name: "b", Name2: "c", Column: api.Column{Name: "d", Kind: 2, Null: true, Default: integer(-5)},
		Index: api.Index{Name: "e", Columns: []string{"f", "g"}, Unique: true}, Foreign: api.Foreign{Name: "h", Columns: []string{"i"}, Table: "j"},
		New:     api.Table{Name: "k", Columns: []api.Column{{Name: "l", Kind: 1}, {Name: "m", Kind: 4, Null: true}}, Key: []string{"n", "o"}, Foreigns: []api.Foreign{{Name: "p"}}, Indexes: []api.Index{{Name: "q", Columns: []string{"r"}}, {Unique: true}}},
		Columns: []string{"s", "t", "u"},
	}
	var w, again writer
	w.change(c)
	l, err := value.FromKey(w.bytes())
	r := &reader{l: l}
	again.change(r.change())
	if err != api.OK || r.bad || len(r.l) > 0 || string(again.bytes()) != string(w.bytes()) {
		t.Error(l, err)
	}
	for n := range l {
		r := &reader{l: l[:n]}
		if r.change(); !r.bad {
			t.Error(n)
		}
	}
}

// What commits have touched is forgotten as soon as no transaction is open that began ahead of them.
func TestHistoryForgets(t *testing.T) {
	s := begun(api.Schema{}, "")
	spans := func(want int) {
		t.Helper()
		if got := len(s.history.spans); got != want {
			t.Error("spans", got, "want", want)
		}
	}
	commit := func() { s.Begin().Commit() }
	commit()
	spans(1)
	a := s.Begin()
	commit()
	spans(2)
	b := s.Begin()
	commit()
	commit()
	spans(4)
	a.Rollback()
	spans(3)
	c := s.Begin()
	commit()
	b.Alter(api.Change{})
	b.Commit()
	spans(3)
	s.repeat(nil)
	s.repeat(value.Key([]api.Value{integer(1)}))
	commit()
	c.Commit()
	spans(1)
	if s.history.spans[0].open != 0 || s.Commits() != 8 {
		t.Error(s.history, s.Commits())
	}
}
