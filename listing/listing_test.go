package listing_test

import (
	"slices"
	"strings"
	"testing"

	"dumbwaiter/api"
	"dumbwaiter/listing"
)

// Z6: lines end with the byte 10, words are parted by single blanks, and Texts can have blanks.
func TestLines(t *testing.T) {
	var w listing.Writer
	w.Line("a", "'b  c'", "'it''s'")
	w.Line("")
	s, err := w.Text()
	if s != "a 'b  c' 'it''s'\n\n" || err != api.OK {
		t.Errorf("%q %v", s, err)
	}
	l, ok := listing.Lines(s)
	if !ok || len(l) != 2 || !slices.Equal(l[0], listing.Words{"a", "'b  c'", "'it''s'"}) || !slices.Equal(l[1], listing.Words{""}) {
		t.Error(l, ok)
	}
	for s, want := range map[string]bool{"": true, "a": false, "\n": true, "a\nb": false, "a\nb\n": true} {
		if _, ok := listing.Lines(s); ok != want {
			t.Errorf("%q %v", s, ok)
		}
	}
	w.Line(strings.Repeat("x", api.MaxListing-len(s)-1))
	if s, err := w.Text(); len(s) != api.MaxListing || err != api.OK {
		t.Error(len(s), err)
	}
	w.Line("")
	if s, err := w.Text(); s != "" || err != api.ErrLarge {
		t.Error(len(s), err)
	}
}

// P2.1: tall names, and what texts take for them.
func TestNames(t *testing.T) {
	for s, want := range map[string][2]bool{
		"": {}, "a": {true, true}, "a_1": {true, true}, "_": {false, true}, "1a": {false, true}, "A": {}, "a.b": {}, "a b": {}, "é": {}, "{": {}, "`": {}, ":": {}, "/": {},
		strings.Repeat("a", api.MaxTall): {true, true}, strings.Repeat("a", api.MaxTall+1): {false, true},
	} {
		if got := [2]bool{listing.IsTall(s), listing.IsTallWord(s)}; got != want {
			t.Errorf("%q %v", s, got)
		}
	}
}

// P2.11: the lines of a table are read again, whatever their order is; others are none.
func TestTableLines(t *testing.T) {
	table := api.Table{
		Columns:  []api.Column{{Name: "a", Kind: api.Int}, {Name: "b", Kind: api.Text, Null: true, Default: api.Value{Kind: api.Text, S: "x y"}}},
		Key:      []string{"a", "b"},
		Foreigns: []api.Foreign{{Name: "f", Table: "t", Columns: []string{"a"}}, {Name: "g", Table: "t", Columns: []string{}}},
		Indexes:  []api.Index{{Name: "i", Columns: []string{"a", "b"}}, {Name: "u", Columns: []string{"b"}, Unique: true}},
	}
	var w listing.Writer
	w.Table(table)
	want := "column a int\ncolumn b text null default 'x y'\nkey a b\nforeign f t a\nforeign g t\nindex i a b\nunique u b\n"
	s, err := w.Text()
	if s != want || err != api.OK {
		t.Error(s, err)
	}
	l, _ := listing.Lines(s)
	var got api.Table
	for _, words := range l {
		if !listing.ReadTable(&got, words) {
			t.Error(words)
		}
	}
	var again listing.Writer
	again.Table(got)
	if s, err := again.Text(); s != want || err != api.OK {
		t.Error(s, err)
	}
	for _, s := range []string{"", "table t", "column", "column a", "column a float", "column a int default null", "column A int", "key A", "foreign f", "foreign f t A", "index", "index 1 A", "keys a"} {
		l, _ := listing.Lines(s + "\n")
		if listing.ReadTable(&got, l[0]) {
			t.Error(s)
		}
	}
}
