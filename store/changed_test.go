package store_test

import (
	"slices"
	"strings"
	"testing"

	"dumbwaiter/api"
	"dumbwaiter/schema"
	"dumbwaiter/store"
)

// edited is the depot and its stock behind a change: pairs of texts that are replaced in the text of the schema, and what is done with the rows.
type edited struct {
	change api.Change
	text   []string
	rows   func(d *api.Data)
}

// eachRow changes each row of a table.
func eachRow(table int, f func(r []api.Value) []api.Value) func(d *api.Data) {
	return func(d *api.Data) {
		for i, r := range d.Tables[table].Rows {
			d.Tables[table].Rows[i] = f(r)
		}
	}
}

// setAt changes the value at a place of each row of a table.
func setAt(table, place int, f func(v api.Value) api.Value) func(d *api.Data) {
	return eachRow(table, func(r []api.Value) []api.Value {
		r[place] = f(r[place])
		return r
	})
}

// orNot is a value instead of null.
func orNot(def api.Value) func(v api.Value) api.Value {
	return func(v api.Value) api.Value {
		if v == null {
			return def
		}
		return v
	}
}

func sameData(*api.Data) {}

// editsOfTables are changes of whole tables.
func editsOfTables() []edited {
	bag := api.Table{Name: "bag", Columns: []api.Column{{Name: "id", Kind: api.Int}, {Name: "box", Kind: api.Int, Null: true}}, Key: []string{"id"}, Foreigns: []api.Foreign{{Name: "bag", Columns: []string{"box"}, Table: "bag"}, {Name: "box", Columns: []string{"box"}, Table: "box"}}, Indexes: []api.Index{{Name: "a", Columns: []string{"box"}}, {Name: "b", Columns: []string{"box", "id"}, Unique: true}}}
	return []edited{
		{api.Change{Kind: api.ChCreate, New: bag}, []string{"table box\n", "table bag\ncolumn id int\ncolumn box int null\nkey id\nforeign bag bag box\nforeign box box box\nindex a box\nunique b box id\ntable box\n"}, func(d *api.Data) { d.Tables = slices.Insert(d.Tables, 0, api.TableRows{Table: "bag"}) }},
		{api.Change{Kind: api.ChDrop, Table: "item"}, nil, func(d *api.Data) { d.Tables = slices.Delete(d.Tables, 1, 2) }},
		{api.Change{Kind: api.ChRename, Table: "shelf", Name: "a"}, nil, func(d *api.Data) {
			d.Tables = []api.TableRows{{Table: "a", Rows: d.Tables[2].Rows}, d.Tables[0], d.Tables[1]}
		}},
		{api.Change{Kind: api.ChRename, Table: "item", Name: "j"}, []string{"table item\n", "table j\n", "up item up", "up j up"}, func(d *api.Data) { d.Tables[1].Table = "j" }},
		{api.Change{Kind: api.ChIndex, Table: "item", Index: api.Index{Name: "az", Columns: []string{"shelf", "n"}, Unique: true}}, []string{"index byname", "unique az shelf n\nindex byname"}, sameData},
		{api.Change{Kind: api.ChIndex, Table: "item", Index: api.Index{Name: "z", Columns: []string{"name"}}}, []string{"byname name n id\n", "byname name n id\nindex z name\n"}, sameData},
		{api.Change{Kind: api.ChUnindex, Table: "box", Name: "bylabel"}, []string{"unique bylabel label\n", ""}, sameData},
		{api.Change{Kind: api.ChForeign, Table: "box", Foreign: api.Foreign{Name: "any", Columns: []string{"size"}, Table: "item"}}, []string{"unique bylabel", "foreign any item size\nunique bylabel"}, sameData},
		{api.Change{Kind: api.ChForeign, Table: "item", Foreign: api.Foreign{Name: "t", Columns: []string{"id"}, Table: "item"}}, []string{"foreign up", "foreign t item id\nforeign up"}, sameData},
		{api.Change{Kind: api.ChUnforeign, Table: "item", Name: "shelf"}, []string{"foreign shelf shelf shelf place\n", ""}, sameData},
	}
}

// editsOfColumns are changes of columns.
func editsOfColumns() []edited {
	extra := api.Column{Name: "more", Kind: api.Text, Default: text("?")}
	return []edited{
		{api.Change{Kind: api.ChAdd, Table: "box", Column: extra}, []string{"moment null\n", "moment null\ncolumn more text default '?'\n"}, eachRow(boxes, func(r []api.Value) []api.Value { return append(r, text("?")) })},
		{api.Change{Kind: api.ChAdd, Table: "box", Column: api.Column{Name: "more", Kind: api.Bool, Null: true}}, []string{"moment null\n", "moment null\ncolumn more bool null\n"}, eachRow(boxes, func(r []api.Value) []api.Value { return append(r, null) })},
		{api.Change{Kind: api.ChRemove, Table: "box", Name: "open"}, []string{"column open bool null default true\n", ""}, eachRow(boxes, func(r []api.Value) []api.Value { return slices.Delete(r, 3, 4) })},
		{api.Change{Kind: api.ChRemove, Table: "item", Name: "spare"}, []string{"column spare bool null\n", ""}, eachRow(items, func(r []api.Value) []api.Value { return r[:7] })},
		{api.Change{Kind: api.ChMove, Table: "item", Name: "id", Name2: "nr"}, []string{"table item\ncolumn id", "table item\ncolumn nr", "null\nkey id\nforeign", "null\nkey nr\nforeign", "name n id", "name n nr"}, sameData},
		{api.Change{Kind: api.ChMove, Table: "shelf", Name: "place", Name2: "p_1"}, []string{"column place int\n", "column p_1 int\n", "name place", "name p_1"}, sameData},
		{api.Change{Kind: api.ChMove, Table: "item", Name: "place", Name2: "p_1"}, []string{"column place int null\n", "column p_1 int null\n", "shelf place", "shelf p_1"}, sameData},
		{api.Change{Kind: api.ChLoose, Table: "box", Name: "label"}, []string{"label text default", "label text null default"}, sameData},
		{api.Change{Kind: api.ChTight, Table: "box", Name: "open", Column: api.Column{Default: boolean(0)}}, []string{"open bool null", "open bool"}, setAt(boxes, 3, orNot(boolean(0)))},
		{api.Change{Kind: api.ChTight, Table: "box", Name: "size", Column: api.Column{Default: integer(7)}}, []string{"size int null", "size int default 7"}, setAt(boxes, 1, orNot(integer(7)))},
		{api.Change{Kind: api.ChTight, Table: "item", Name: "up", Column: api.Column{Default: integer(-5)}}, []string{"up int null", "up int default -5"}, setAt(items, 2, orNot(integer(-5)))},
		{api.Change{Kind: api.ChDefault, Table: "box", Name: "label", Column: api.Column{Default: text("old")}}, []string{"'new'", "'old'"}, sameData},
		{api.Change{Kind: api.ChDefault, Table: "box", Name: "label"}, []string{" default 'new'", ""}, sameData},
		{api.Change{Kind: api.ChOrder, Table: "box", Columns: []string{"seen", "label", "id", "open", "size"}}, []string{
			"column id int\ncolumn size int null\ncolumn label text default 'new'\ncolumn open bool null default true\ncolumn seen moment null\n",
			"column seen moment null\ncolumn label text default 'new'\ncolumn id int\ncolumn open bool null default true\ncolumn size int null\n"},
			eachRow(boxes, func(r []api.Value) []api.Value { return row(r[4], r[2], r[0], r[3], r[1]) })},
		{api.Change{Kind: api.ChCast, Table: "box", Name: "open", Column: api.Column{Kind: api.Text}}, []string{"bool null default true\ncolumn seen", "text null default 'true'\ncolumn seen"}, setAt(boxes, 3, func(v api.Value) api.Value {
			return map[api.Value]api.Value{boolean(0): text("false"), boolean(1): text("true")}[v]
		})},
		{api.Change{Kind: api.ChCast, Table: "item", Name: "n", Column: api.Column{Kind: api.Bool}}, []string{"n int", "n bool"}, setAt(items, 6, func(v api.Value) api.Value {
			return map[api.Value]api.Value{integer(0): boolean(0), integer(4): boolean(1), integer(5): boolean(1)}[v]
		})},
		{api.Change{Kind: api.ChCast, Table: "box", Name: "seen", Column: api.Column{Kind: api.Int}}, []string{"seen moment", "seen int"}, setAt(boxes, 4, func(v api.Value) api.Value {
			return map[api.Value]api.Value{moment(60): integer(60)}[v]
		})},
	}
}

// behind returns the schema and the data of an edit.
func (e edited) behind(t *testing.T) (api.Schema, api.Data) {
	t.Helper()
	s, d := depot(t), stock()
	e.rows(&d)
	switch {
	case e.change.Kind == api.ChDrop:
		s.Tables = slices.Delete(s.Tables, 1, 2)
	case e.change.Kind == api.ChRename && e.change.Table == "shelf":
		s.Tables = []api.Table{s.Tables[2], s.Tables[0], s.Tables[1]}
		s.Tables[0].Name, s.Tables[2].Foreigns[1].Table = "a", "a"
	default:
		before, _ := schema.SchemaText(s)
		after := before
		for i := 0; i < len(e.text); i += 2 {
			if strings.Count(before, e.text[i]) != 1 {
				t.Fatal("text", e.text[i])
			}
			after = strings.Replace(after, e.text[i], e.text[i+1], 1)
		}
		s = readSchema(t, strings.TrimSuffix(after, "\n"))
	}
	return s, d
}

// P3.1, P3.2, P3.10: what each kind of change makes of a schema and of rows, directly and in a transaction.
func TestWhatChangesMake(t *testing.T) {
	for _, e := range append(editsOfTables(), editsOfColumns()...) {
		s, d := e.behind(t)
		if err := store.CheckChange(depot(t), e.change); err != api.OK {
			t.Error(e.change, err)
		}
		gotSchema, gotData, err := store.Changed(depot(t), stock(), e.change)
		if err != api.OK || !same(gotSchema, s) || !same(gotData, d) || schema.CheckData(gotSchema, gotData) != api.OK {
			t.Error(e.change, err, gotSchema, gotData)
		}
		x := stocked(t)
		a := x.Begin()
		must(t, a.Alter(e.change))
		gotSchema, err = a.Schema()
		if err != api.OK || !same(gotSchema, s) {
			t.Error(e.change, gotSchema, err)
		}
		if gotData, err = a.Data(); err != api.OK || !same(gotData, d) {
			t.Error(e.change, gotData, err)
		}
		must(t, a.Commit())
		if !same(x.Schema(), s) || !same(x.Data(), d) {
			t.Error(e.change, x.Schema(), x.Data())
		}
	}
}

// P3.2: rows are sorted by their keys behind a cast, and the new ones are asked.
func TestCastOfKey(t *testing.T) {
	s := readSchema(t, "table a", "column k int", "column n int", "key k n")
	d := api.Data{Tables: []api.TableRows{{Table: "a", Rows: [][]api.Value{row(integer(-3), integer(1)), row(integer(2), integer(1)), row(integer(10), integer(0)), row(integer(10), integer(1))}}}}
	_, got, err := store.Changed(s, d, api.Change{Kind: api.ChCast, Table: "a", Name: "k", Column: api.Column{Kind: api.Text}})
	want := [][]api.Value{row(text("-3"), integer(1)), row(text("10"), integer(0)), row(text("10"), integer(1)), row(text("2"), integer(1))}
	if err != api.OK || !same(got.Tables[0].Rows, want) {
		t.Error(got, err)
	}
	if _, _, err := store.Changed(s, d, api.Change{Kind: api.ChCast, Table: "a", Name: "k", Column: api.Column{Kind: api.Bool}}); err != api.ErrKey {
		t.Error(err)
	}
	if _, _, err := store.Changed(s, d, api.Change{Kind: api.ChCast, Table: "a", Name: "n", Column: api.Column{Kind: api.Bool}}); err != api.OK {
		t.Error(err)
	}
}

// P3.2, P3.10: errors that depend on rows.
func TestChangesThatRowsRefuse(t *testing.T) {
	cast := func(table, name string, kind int) api.Change {
		return api.Change{Kind: api.ChCast, Table: table, Name: name, Column: api.Column{Kind: kind}}
	}
	tight := func(table, name string, def api.Value) api.Change {
		return api.Change{Kind: api.ChTight, Table: table, Name: name, Column: api.Column{Default: def}}
	}
	unique := func(table string, columns ...string) api.Change {
		return api.Change{Kind: api.ChIndex, Table: table, Index: api.Index{Name: "x", Columns: columns, Unique: true}}
	}
	foreign := func(table, to string, columns ...string) api.Change {
		return api.Change{Kind: api.ChForeign, Table: table, Foreign: api.Foreign{Name: "x", Columns: columns, Table: to}}
	}
	for _, x := range []struct {
		change api.Change
		want   api.Errno
	}{
		{cast("shelf", "note", api.Int), api.ErrType}, {cast("item", "name", api.Int), api.ErrLost}, {cast("item", "name", api.Moment), api.ErrLost}, {cast("box", "size", api.Moment), api.OK}, {cast("box", "size", api.Bool), api.OK},
		{tight("box", "size", null), api.ErrNull}, {tight("item", "spare", null), api.ErrNull}, {tight("box", "size", integer(10)), api.ErrKey}, {tight("box", "size", integer(11)), api.OK},
		{unique("item", "name"), api.ErrKey}, {unique("item", "n", "name"), api.ErrKey}, {unique("item", "name", "n", "spare"), api.OK}, {unique("box", "seen"), api.ErrKey}, {unique("box", "open"), api.ErrKey}, {unique("shelf", "note"), api.OK},
		{foreign("item", "box", "n"), api.ErrRef}, {foreign("item", "shelf", "name", "n"), api.ErrRef}, {foreign("item", "box", "spare"), api.ErrType}, {foreign("box", "item", "id"), api.ErrRef}, {foreign("shelf", "shelf", "note", "place"), api.ErrRef},
		{tight("item", "box", integer(5)), api.ErrRef}, {tight("item", "box", integer(4)), api.OK}, {tight("item", "up", integer(77)), api.ErrRef}, {tight("item", "shelf", text("left")), api.ErrRef}, {tight("item", "place", integer(1)), api.OK}, {tight("item", "place", integer(3)), api.ErrRef},
	} {
		s, d, err := store.Changed(depot(t), stock(), x.change)
		if err != x.want || err != api.OK && (!same(s, api.Schema{}) || !same(d, api.Data{})) {
			t.Error(x, s, d, err)
		}
		a := stocked(t).Begin()
		if err := a.Alter(x.change); err != x.want {
			t.Error(x, err)
		}
		if d, err := a.Data(); err != api.OK || x.want != api.OK && !same(d, stock()) {
			t.Error(x, d, err)
		}
	}
}

// P3.2: rows as they are can be tightened with null.
func TestTightWithoutNulls(t *testing.T) {
	d := stock()
	setAt(boxes, 1, orNot(integer(3)))(&d)
	s, got, err := store.Changed(depot(t), d, api.Change{Kind: api.ChTight, Table: "box", Name: "size"})
	if err != api.OK || s.Tables[0].Columns[1] != (api.Column{Name: "size", Kind: api.Int}) || !same(got, d) {
		t.Error(s, got, err)
	}
}

// P3.2: the order of errors.
func TestOrderOfErrorsOfChanged(t *testing.T) {
	s := readSchema(t, "table a", "column k int", "column u int null", "column v text null", "key k", "foreign f a u", "unique x u")
	rows := func(l ...[]api.Value) api.Data { return api.Data{Tables: []api.TableRows{{Table: "a", Rows: l}}} }
	good := rows(row(integer(1), null, text("x")), row(integer(2), null, text("x")), row(integer(3), integer(3), null))
	bad := rows(row(integer(2), null, text("x")), row(integer(2), null, text("y")))
	tight := func(def api.Value) api.Change {
		return api.Change{Kind: api.ChTight, Table: "a", Name: "u", Column: api.Column{Default: def}}
	}
	for _, x := range []struct {
		d    api.Data
		c    api.Change
		want api.Errno
	}{
		{bad, api.Change{}, api.ErrKind}, {bad, tight(text("")), api.ErrType}, {bad, tight(null), api.ErrKey}, {api.Data{}, tight(integer(9)), api.ErrForm},
		{bad, api.Change{Kind: api.ChCast, Table: "a", Name: "v", Column: api.Column{Kind: api.Int}}, api.ErrKey},
		{good, tight(null), api.ErrNull}, {good, tight(integer(9)), api.ErrKey}, {good, tight(integer(1)), api.ErrKey},
		{rows(good.Tables[0].Rows[0], good.Tables[0].Rows[2]), tight(integer(9)), api.ErrRef}, {rows(good.Tables[0].Rows[0], good.Tables[0].Rows[2]), tight(integer(1)), api.OK},
	} {
		if _, _, err := store.Changed(s, x.d, x.c); err != x.want {
			t.Error(x, err)
		}
	}
	s.Tables[0].Name = ""
	if _, _, err := store.Changed(s, bad, api.Change{}); err != api.ErrName {
		t.Error(err)
	}
}
