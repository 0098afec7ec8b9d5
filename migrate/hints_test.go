package migrate_test

import (
	"slices"
	"testing"

	"dumbwaiter/api"
	"dumbwaiter/migrate"
)

// hinting is what Moved is asked.
type hinting struct {
	A, B  api.Schema
	Hints []api.Hint
	D     api.Data
}

// checkHinting calls CheckHints.
func checkHinting(x hinting) api.Errno { return migrate.CheckHints(x.A, x.B, x.Hints) }

// hintings are right arguments.
func hintings(t testing.TB) hinting {
	t.Helper()
	return hinting{
		depot(t),
		readSchema(t,
			"table board", "column place text", "column title text", "column note text default 'no'", "column firm int", "column since text null", "column more bool", "column late moment default @1970-01-01T00:00:09", "key title place",
			"table box", "column id int", "column size int null", "column label text default 'new'", "column open bool default false", "key id",
			"table item", "column id bool", "column num int", "column name text null", "key num",
		),
		[]api.Hint{{Table: "shelf", To: "board"}, {Table: "shelf", Column: "name", To: "title"}, {Table: "item", Column: "id", To: "num"}, {Table: "item", Column: "n", To: "id"}},
		stock(),
	}
}

// hintFaults are the errors of CheckHints, in order.
func hintFaults() []fault[hinting] {
	hint := func(spot string, want api.Errno, i int, h api.Hint) fault[hinting] {
		return fault[hinting]{spot, func(x *hinting) { x.Hints[i] = h }, want}
	}
	return []fault[hinting]{
		{"A", func(x *hinting) { slices.Reverse(x.A.Tables) }, api.ErrOrder},
		{"A", func(x *hinting) { x.A.Tables[0].Key = nil }, api.ErrForm},
		{"B", func(x *hinting) { x.B.Tables[0].Columns[0].Kind = 0 }, api.ErrKind},
		{"many", func(x *hinting) {
			x.Hints = append(x.Hints, slices.Repeat([]api.Hint{{Table: "box", To: "box"}}, api.MaxHints)...)
		}, api.ErrLarge},
		hint("0", api.ErrName, 0, api.Hint{Table: "none", To: "board"}),
		hint("0", api.ErrName, 0, api.Hint{Table: "board", To: "board"}),
		hint("0", api.ErrName, 0, api.Hint{Table: "shelf", To: "shelf"}),
		hint("0", api.ErrName, 0, api.Hint{Table: "shelf", To: ""}),
		hint("0", api.ErrName, 0, api.Hint{To: "board"}),
		hint("1", api.ErrName, 1, api.Hint{Table: "none", Column: "name", To: "title"}),
		hint("1", api.ErrName, 1, api.Hint{Table: "shelf", Column: "title", To: "title"}),
		hint("1", api.ErrName, 1, api.Hint{Table: "board", Column: "name", To: "title"}),
		hint("1", api.ErrTwice, 1, api.Hint{Table: "shelf", To: "box"}),
		hint("1", api.ErrTwice, 1, api.Hint{Table: "box", To: "board"}),
		hint("2", api.ErrTwice, 2, api.Hint{Table: "shelf", Column: "name", To: "place"}),
		hint("2", api.ErrTwice, 2, api.Hint{Table: "shelf", Column: "note", To: "title"}),
		hint("3", api.ErrName, 3, api.Hint{Table: "item", Column: "num", To: "num"}),
		hint("3", api.ErrTwice, 3, api.Hint{Table: "item", Column: "n", To: "num"}),
		// Whether there is a column To is asked behind all hints.
		{"to", func(x *hinting) { x.B.Tables[0].Columns[1].Name, x.B.Tables[0].Key[0] = "heading", "heading" }, api.ErrName},
		{"to", func(x *hinting) { x.B.Tables[2].Columns[1].Name, x.B.Tables[2].Key[0] = "number", "number" }, api.ErrName},
	}
}

// P6.2: errors of CheckHints.
func TestHintErrors(t *testing.T) {
	tryFaults(t, hintings(t), checkHinting, hintFaults())
	a := tables(t, "a id:int x:int y:int", "b id:int x:int", "c id:int x:int")
	for _, x := range []struct {
		want  api.Errno
		hints []api.Hint
	}{
		{api.OK, nil},
		// Names of columns can stand for several tables, and those of tables and columns are no names of one another.
		{api.OK, []api.Hint{{Table: "a", Column: "x", To: "y"}, {Table: "b", Column: "x", To: "x"}, {Table: "c", Column: "x", To: "x"}}},
		{api.OK, []api.Hint{{Table: "a", To: "b"}, {Table: "b", To: "a"}, {Table: "a", Column: "y", To: "x"}, {Table: "b", Column: "x", To: "y"}}},
		{api.OK, []api.Hint{{Table: "a", Column: "x", To: "x"}, {Table: "a", Column: "y", To: "y"}, {Table: "a", To: "a"}}},
		{api.ErrTwice, []api.Hint{{Table: "a", Column: "x", To: "x"}, {Table: "a", Column: "x", To: "y"}}},
		{api.ErrTwice, []api.Hint{{Table: "a", Column: "x", To: "x"}, {Table: "a", Column: "y", To: "x"}}},
		{api.ErrTwice, []api.Hint{{Table: "a", To: "b"}, {Table: "a", To: "b"}}},
		{api.ErrTwice, []api.Hint{{Table: "a", To: "b"}, {Table: "a", To: "c"}}},
		{api.ErrTwice, []api.Hint{{Table: "a", To: "b"}, {Table: "c", To: "b"}}},
		// The table that belongs to b is a, to which x is hinted; none belongs to a.
		{api.OK, []api.Hint{{Table: "b", Column: "x", To: "y"}, {Table: "b", To: "a"}}},
		{api.ErrName, []api.Hint{{Table: "a", Column: "x", To: "x"}, {Table: "b", To: "a"}}},
		{api.ErrName, []api.Hint{{Table: "b", Column: "x", To: "y"}}},
		{api.ErrName, []api.Hint{{Table: "b", Column: "x", To: "y"}, {Table: "a", To: "c"}}},
		{api.ErrName, []api.Hint{{Table: "c", Column: "x", To: "x"}, {Table: "a", To: "c"}}},
		{api.ErrTwice, []api.Hint{{Table: "b", Column: "x", To: "none"}, {Table: "a", To: "c"}, {Table: "b", To: "c"}}},
		{api.ErrName, []api.Hint{{Table: "b", Column: "x", To: ""}}},
	} {
		if err := migrate.CheckHints(a, a, x.hints); err != x.want {
			t.Error(x, err)
		}
	}
	many := api.Schema{}
	for i := range api.MaxTables {
		many.Tables = append(many.Tables, wide(numbered("a", i), 0, nil))
	}
	var hints []api.Hint
	for _, x := range many.Tables {
		hints = append(hints, api.Hint{Table: x.Name, To: x.Name})
	}
	if err := migrate.CheckHints(many, many, hints); err != api.OK {
		t.Error(err)
	}
	if err := migrate.CheckHints(many, many, append(hints, api.Hint{})); err != api.ErrLarge {
		t.Error(err)
	}
}

// P6.3, P6.4: what belongs together and matches, and what becomes of rows.
func TestMoved(t *testing.T) {
	want := api.Data{Tables: []api.TableRows{
		{Table: "board", Rows: [][]api.Value{
			// place is an Int of the old key, and a Text now; 1 comes ahead of 2, also as a Text.
			row(text("1"), text("left"), text("no"), integer(1), text("1970-01-01T00:00:00"), boolean(0), moment(9)),
			row(text("2"), text("left"), text("low"), integer(0), text("1970-01-01T00:00:01"), boolean(0), moment(9)),
			row(text("1"), text("right"), text(""), integer(1), text("1970-01-01T00:00:02"), boolean(0), moment(9)),
		}},
		{Table: "box", Rows: [][]api.Value{
			row(integer(1), integer(10), text("a"), boolean(1)),
			row(integer(2), integer(10), text("b"), boolean(0)),
			row(integer(3), null, text("c"), boolean(0)),
			row(integer(4), null, text("7"), boolean(0)),
		}},
		{Table: "item", Rows: [][]api.Value{
			row(boolean(0), integer(-5), null),
			row(boolean(0), integer(7), text("pin")),
			row(boolean(1), integer(8), text("nut")),
			row(boolean(1), integer(9), text("nut")),
		}},
	}}
	x := hintings(t)
	x.D.Tables[1].Rows[1][6] = integer(0)
	if d, err := migrate.Moved(x.A, x.B, x.Hints, x.D); err != api.OK || !same(d, want) {
		t.Error(d, err)
	}
	checkDiff(t, x.A, x.B, x.Hints, x.D)
}

// moving is a case of Moved: a table of each schema, the columns of a row, and those of the row behind.
type moving struct {
	a, b  string
	hints []api.Hint
	row   []api.Value
	want  []api.Value // nil: there is none
	err   api.Errno
}

// P6.3, P6.4: which tables and columns match, and the values in each of them.
func TestMovedRows(t *testing.T) {
	one := integer(1)
	day := moment(86400)
	for _, x := range []moving{
		{"t id:int", "t id:int", nil, row(one), row(one), 0},
		{"t id:int", "t id:text", nil, row(integer(-7)), row(text("-7")), 0},
		{"t id:int", "t id:bool", nil, row(integer(-7)), row(boolean(1)), 0},
		{"t id:int", "t id:moment", nil, row(integer(86400)), row(day), 0},
		{"t id:int", "t id:moment", nil, row(integer(-1)), nil, api.ErrLost},
		{"t id:text", "t id:int", nil, row(text("01")), nil, api.ErrLost},
		{"t id:text", "t id:int", nil, row(text("10")), row(integer(10)), 0},
		// No cast: no match. Other names, other numbers of columns: none, too.
		{"t id:bool", "t id:moment", nil, row(boolean(1)), nil, 0},
		{"t id:moment", "t id:bool", nil, row(day), nil, 0},
		{"t id:int", "t key:int id:int", nil, row(one), nil, 0},
		{"t id:int", "t key:int id:int", []api.Hint{{Table: "t", Column: "id", To: "key"}}, row(one), row(one, integer(0)), 0},
		{"t id:int", "u id:int", nil, row(one), nil, 0},
		{"t id:int", "u id:int", []api.Hint{{Table: "t", To: "u"}}, row(one), row(one), 0},
		// Columns that do not match, and new ones.
		{"t id:int x:bool", "t id:int x:moment", nil, row(one, boolean(1)), row(one, moment(0)), 0},
		{"t id:int x:bool", "t id:int x:moment?", nil, row(one, boolean(1)), row(one, null), 0},
		{"t id:int", "t id:int a:bool b:int c:text d:moment", nil, row(one), row(one, boolean(0), integer(0), text(""), moment(0)), 0},
		{"t id:int", "t id:int a:bool? b:int? c:text? d:moment?", nil, row(one), row(one, null, null, null, null), 0},
		{"t id:int x:int", "t id:int y:int", nil, row(one, integer(5)), row(one, integer(0)), 0},
		{"t id:int x:int", "t id:int y:text?", []api.Hint{{Table: "t", Column: "x", To: "y"}}, row(one, integer(5)), row(one, text("5")), 0},
		// A hinted column no longer belongs to the one of its name, and neither does the one that it becomes.
		{"t id:int x:int", "t id:int x:int y:int", []api.Hint{{Table: "t", Column: "x", To: "y"}}, row(one, integer(5)), row(one, integer(0), integer(5)), 0},
		{"t id:int x:int y:int", "t id:int y:int", []api.Hint{{Table: "t", Column: "x", To: "y"}}, row(one, integer(5), integer(6)), row(one, integer(5)), 0},
		// Nulls.
		{"t id:int x:int?", "t id:int x:int", nil, row(one, null), nil, api.ErrNull},
		{"t id:int x:int?", "t id:int x:int", nil, row(one, integer(5)), row(one, integer(5)), 0},
		{"t id:int x:int?", "t id:int x:text?", nil, row(one, null), row(one, null), 0},
		{"t id:int x:text?", "t id:int x:int?", nil, row(one, text("x")), nil, api.ErrLost},
		// Order of columns.
		{"t id:int x:int y:text", "t id:int y:text x:int", nil, row(one, integer(5), text("a")), row(one, text("a"), integer(5)), 0},
	} {
		a, b := tables(t, x.a), tables(t, x.b)
		d := api.Data{Tables: []api.TableRows{{Table: "t", Rows: [][]api.Value{x.row}}}}
		got, err := migrate.Moved(a, b, x.hints, d)
		want := api.Data{}
		if err == api.OK {
			want.Tables = []api.TableRows{{Table: b.Tables[0].Name}}
			if x.want != nil {
				want.Tables[0].Rows = [][]api.Value{x.want}
			}
		}
		if err != x.err || !same(got, want) {
			t.Error(x, got, err)
		}
		checkDiff(t, a, b, x.hints, d)
	}
}

// P6.3: keys match by position, and Defaults count where nulls cannot be.
func TestMovedKeys(t *testing.T) {
	a := readSchema(t, "table t", "column x int", "column y int", "column z text null", "key x y")
	d := api.Data{Tables: []api.TableRows{{Table: "t", Rows: [][]api.Value{row(integer(1), integer(10), null), row(integer(2), integer(9), text("a")), row(integer(11), integer(3), text("b"))}}}}
	for _, x := range []struct {
		want [][]api.Value
		b    []string
	}{
		{nil, []string{"column x int", "column y int", "column z text null", "key y x"}},
		{nil, []string{"column x int", "column y int", "column z text null", "key x"}},
		{nil, []string{"column x int", "column y int", "column z text", "key x y z"}},
		{[][]api.Value{row(text("d"), text("1"), integer(10)), row(text("b"), text("11"), integer(3)), row(text("a"), text("2"), integer(9))}, []string{"column z text default 'd'", "column x text", "column y int", "key x y"}},
	} {
		b := readSchema(t, append([]string{"table t"}, x.b...)...)
		if got, err := migrate.Moved(a, b, nil, d); err != api.OK || !same(got.Tables[0].Rows, x.want) {
			t.Error(x, got, err)
		}
		checkDiff(t, a, b, nil, d)
	}
}

// P6.4: errors of Moved.
func TestMovedErrors(t *testing.T) {
	base := hinting{A: depot(t), B: depot(t), Hints: []api.Hint{{Table: "box", To: "box"}, {Table: "item", Column: "n", To: "n"}}, D: stock()}
	faults := append(hintFaults()[:4],
		fault[hinting]{"hints", func(x *hinting) { x.Hints[0].To = "none" }, api.ErrName},
		fault[hinting]{"D", func(x *hinting) { x.D.Tables[2].Table = "none" }, api.ErrForm},
		fault[hinting]{"D", func(x *hinting) { x.D.Tables[0].Rows[3] = slices.Clone(x.D.Tables[0].Rows[2]) }, api.ErrKey},
		// Of the last table, though the errors below are of tables ahead of it.
		fault[hinting]{"shelf", func(x *hinting) { x.B.Tables[2].Columns[2] = api.Column{Name: "note", Kind: api.Int, Null: true} }, api.ErrLost},
		fault[hinting]{"item.place", func(x *hinting) { x.B.Tables[1].Columns[4].Null = false }, api.ErrNull},
		fault[hinting]{"box.open", func(x *hinting) {
			x.B.Tables[0].Indexes[2] = api.Index{Name: "z", Columns: []string{"open"}, Unique: true}
		}, api.ErrKey},
		fault[hinting]{"item.n", func(x *hinting) {
			x.B.Tables[1].Foreigns[2] = api.Foreign{Name: "up", Columns: []string{"n"}, Table: "item"}
		}, api.ErrRef},
	)
	tryFaults(t, base, func(x hinting) api.Errno {
		_, err := migrate.Moved(x.A, x.B, x.Hints, x.D)
		if err != api.OK && len(x.Hints) <= api.MaxHints {
			if l, diff := migrate.Diff(x.A, x.B, x.Hints); diff == api.OK {
				if _, _, _, ran := migrate.Run(x.A, x.D, l); ran == api.OK {
					t.Error("Run has no error", x)
				}
			}
		}
		return err
	}, faults)
}

// P6.5: errors of Diff.
func TestDiffErrors(t *testing.T) {
	tryFaults(t, hintings(t), func(x hinting) api.Errno { _, err := migrate.Diff(x.A, x.B, x.Hints); return err }, hintFaults())
}
