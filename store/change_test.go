package store_test

import (
	"slices"
	"strconv"
	"testing"

	"dumbwaiter/api"
	"dumbwaiter/schema"
	"dumbwaiter/store"
)

// altering is what CheckChange is asked.
type altering struct {
	S api.Schema
	C api.Change
}

// checkAltering calls CheckChange.
func checkAltering(a altering) api.Errno { return store.CheckChange(a.S, a.C) }

// unusedFaults sets each field of a change that is not among some, by their names.
func unusedFaults(used ...string) []fault[altering] {
	column := api.Column{Name: "x"}
	all := []struct {
		field string
		set   func(c *api.Change)
	}{
		{"Table", func(c *api.Change) { c.Table = "box" }},
		{"Name", func(c *api.Change) { c.Name = "x" }},
		{"Name2", func(c *api.Change) { c.Name2 = "x" }},
		{"Column", func(c *api.Change) { c.Column.Name = "x" }},
		{"Column", func(c *api.Change) { c.Column.Null = true }},
		{"Column.Kind", func(c *api.Change) { c.Column.Kind = api.Int }},
		{"Column.Default", func(c *api.Change) { c.Column.Default.Kind = api.Int }},
		{"Column.Default", func(c *api.Change) { c.Column.Default.N = 1 }},
		{"Column.Default", func(c *api.Change) { c.Column.Default.S = "x" }},
		{"Index", func(c *api.Change) { c.Index.Name = "x" }},
		{"Index", func(c *api.Change) { c.Index.Columns = []string{""} }},
		{"Index", func(c *api.Change) { c.Index.Unique = true }},
		{"Foreign", func(c *api.Change) { c.Foreign.Name = "x" }},
		{"Foreign", func(c *api.Change) { c.Foreign.Columns = []string{""} }},
		{"Foreign", func(c *api.Change) { c.Foreign.Table = "x" }},
		{"New", func(c *api.Change) { c.New.Name = "x" }},
		{"New", func(c *api.Change) { c.New.Columns = []api.Column{column} }},
		{"New", func(c *api.Change) { c.New.Key = []string{""} }},
		{"New", func(c *api.Change) { c.New.Foreigns = make([]api.Foreign, 1) }},
		{"New", func(c *api.Change) { c.New.Indexes = make([]api.Index, 1) }},
		{"Columns", func(c *api.Change) { c.Columns = []string{""} }},
	}
	var l []fault[altering]
	for _, x := range all {
		if !slices.Contains(used, x.field) {
			l = append(l, fault[altering]{x.field, func(a *altering) { x.set(&a.C) }, api.ErrForm})
		}
	}
	return l
}

// wrong makes a fault of a change.
func wrong(spot string, want api.Errno, change func(c *api.Change)) fault[altering] {
	return fault[altering]{spot, func(a *altering) { change(&a.C) }, want}
}

// tryChange tries the faults that all kinds of changes have, and then those of one kind.
func tryChange(t *testing.T, c api.Change, used []string, faults ...fault[altering]) {
	t.Helper()
	l := []fault[altering]{
		{"schema", func(a *altering) { slices.Reverse(a.S.Tables) }, api.ErrOrder},
		wrong("Kind", api.ErrKind, func(c *api.Change) { c.Kind = 0 }),
		wrong("Kind", api.ErrKind, func(c *api.Change) { c.Kind = api.ChOrder + 1 }),
		wrong("Kind", api.ErrKind, func(c *api.Change) { c.Kind = -1 }),
	}
	l = append(l, unusedFaults(used...)...)
	if slices.Contains(used, "Table") {
		l = append(l, wrong("Table", api.ErrName, func(c *api.Change) { c.Table = "none" }), wrong("Table", api.ErrName, func(c *api.Change) { c.Table = "" }))
	}
	tryFaults(t, altering{depot(t), c}, checkAltering, append(l, faults...))
}

// named makes a fault by another Name.
func named(want api.Errno, name string) fault[altering] {
	return wrong("Name", want, func(c *api.Change) { c.Name = name })
}

// ordered makes a fault by other Columns.
func ordered(want api.Errno, names ...string) fault[altering] {
	return wrong("Columns", want, func(c *api.Change) { c.Columns = names })
}

// P3.1: errors of each kind in their order, alone and in pairs.
func TestChangesOfTables(t *testing.T) {
	made := api.Table{Name: "bag", Columns: []api.Column{{Name: "id", Kind: api.Int}, {Name: "box", Kind: api.Int}}, Key: []string{"id"}, Foreigns: []api.Foreign{{Name: "box", Columns: []string{"box"}, Table: "box"}}}
	tryChange(t, api.Change{Kind: api.ChCreate, New: made}, []string{"New"},
		wrong("New.Name", api.ErrTwice, func(c *api.Change) { c.New.Name = "item" }),
		wrong("New.Name", api.ErrName, func(c *api.Change) { c.New.Name = "B" }),
		wrong("New.Name", api.ErrName, func(c *api.Change) { c.New.Name = long(41) }),
		wrong("New.Columns", api.ErrTwice, func(c *api.Change) { c.New.Columns[1].Name = "id" }),
		wrong("New.Key", api.ErrForm, func(c *api.Change) { c.New.Key = nil }),
		wrong("New.Key", api.ErrName, func(c *api.Change) { c.New.Key = []string{"ids"} }),
		wrong("New.Foreigns", api.ErrName, func(c *api.Change) { c.New.Foreigns[0].Table = "none" }),
		wrong("New.Foreigns", api.ErrForm, func(c *api.Change) { c.New.Foreigns[0].Table = "shelf" }),
	)
	tryChange(t, api.Change{Kind: api.ChDrop, Table: "item"}, []string{"Table"},
		wrong("Table", api.ErrRef, func(c *api.Change) { c.Table = "box" }),
		wrong("Table", api.ErrRef, func(c *api.Change) { c.Table = "shelf" }),
	)
	tryChange(t, api.Change{Kind: api.ChRename, Table: "item", Name: "ball"}, []string{"Table", "Name"},
		named(api.ErrName, ""), named(api.ErrName, "Ball"), named(api.ErrName, "2ball"), named(api.ErrName, "_ball"), named(api.ErrName, "ball."), named(api.ErrName, long(41)),
		named(api.ErrTwice, "box"), named(api.ErrTwice, "item"),
	)
}

// P3.1
func TestChangesOfColumns(t *testing.T) {
	tryChange(t, api.Change{Kind: api.ChAdd, Table: "item", Column: api.Column{Name: "more", Kind: api.Int, Default: integer(1)}}, []string{"Table", "Column", "Column.Kind", "Column.Default"},
		wrong("Column.Name", api.ErrTwice, func(c *api.Change) { c.Column.Name = "id" }),
		wrong("Default", api.ErrNull, func(c *api.Change) { c.Column.Default = null }),
		wrong("Column.Name", api.ErrName, func(c *api.Change) { c.Column.Name = "" }),
		wrong("Kind of Column", api.ErrKind, func(c *api.Change) { c.Column.Kind = api.Null }),
		wrong("Kind of Column", api.ErrKind, func(c *api.Change) { c.Column.Kind = 5 }),
		wrong("Default", api.ErrType, func(c *api.Change) { c.Column.Default = text("") }),
		wrong("Default", api.ErrArg, func(c *api.Change) { c.Column.Default = integer(api.MaxInt + 1) }),
	)
	tryChange(t, api.Change{Kind: api.ChRemove, Table: "item", Name: "spare"}, []string{"Table", "Name"},
		named(api.ErrName, "nothing"), named(api.ErrName, ""), named(api.ErrName, "size"),
		named(api.ErrRef, "id"), named(api.ErrRef, "up"), named(api.ErrRef, "place"), named(api.ErrRef, "n"),
	)
	tryChange(t, api.Change{Kind: api.ChMove, Table: "item", Name: "n", Name2: "count_2"}, []string{"Table", "Name", "Name2"},
		named(api.ErrName, "nothing"), named(api.ErrName, "label"),
		wrong("Name2", api.ErrName, func(c *api.Change) { c.Name2 = "" }),
		wrong("Name2", api.ErrName, func(c *api.Change) { c.Name2 = "a b" }),
		wrong("Name2", api.ErrName, func(c *api.Change) { c.Name2 = long(41) }),
		wrong("Name2", api.ErrTwice, func(c *api.Change) { c.Name2 = "id" }),
		wrong("Name2", api.ErrTwice, func(c *api.Change) { c.Name2 = "n" }),
	)
	tryChange(t, api.Change{Kind: api.ChLoose, Table: "shelf", Name: "firm"}, []string{"Table", "Name"},
		named(api.ErrName, "nothing"), named(api.ErrName, "id"), named(api.ErrRef, "place"), named(api.ErrState, "note"),
	)
	tryChange(t, api.Change{Kind: api.ChOrder, Table: "shelf", Columns: []string{"firm", "note", "name", "place"}}, []string{"Table", "Columns"},
		ordered(api.ErrName, "firm", "id", "name", "place"), ordered(api.ErrName, "firm", "note", "name", ""), ordered(api.ErrName, "id", "id", "name", "place"), ordered(api.ErrName, "firm", "note", "id"),
		ordered(api.ErrTwice, "firm", "firm", "name", "place"), ordered(api.ErrTwice, "firm", "note", "firm", "id"), ordered(api.ErrTwice, "firm", "firm"), ordered(api.ErrTwice, "firm", "note", "name", "place", "name"),
		ordered(api.ErrForm, "firm", "note", "place"), ordered(api.ErrForm),
	)
}

// P3.1
func TestChangesOfValues(t *testing.T) {
	kind := func(want api.Errno, kind int) fault[altering] {
		return wrong("Column.Kind", want, func(c *api.Change) { c.Column.Kind = kind })
	}
	tryChange(t, api.Change{Kind: api.ChCast, Table: "item", Name: "n", Column: api.Column{Kind: api.Text}}, []string{"Table", "Name", "Column.Kind"},
		named(api.ErrName, "nothing"), named(api.ErrName, "label"),
		kind(api.ErrType, 0), kind(api.ErrType, 5), kind(api.ErrType, -1),
		named(api.ErrRef, "up"), named(api.ErrRef, "place"), named(api.ErrRef, "id"),
	)
	def := func(want api.Errno, v api.Value) fault[altering] {
		return wrong("Column.Default", want, func(c *api.Change) { c.Column.Default = v })
	}
	tryChange(t, api.Change{Kind: api.ChTight, Table: "item", Name: "n", Column: api.Column{Default: integer(3)}}, []string{"Table", "Name", "Column.Default"},
		named(api.ErrName, "nothing"), named(api.ErrName, "label"), named(api.ErrState, "id"),
		def(api.ErrForm, api.Value{Kind: 9}), def(api.ErrForm, api.Value{N: 9}), def(api.ErrType, text("3")), def(api.ErrArg, integer(-api.MaxInt-1)),
	)
	tryChange(t, api.Change{Kind: api.ChDefault, Table: "item", Name: "n", Column: api.Column{Default: integer(3)}}, []string{"Table", "Name", "Column.Default"},
		named(api.ErrName, "nothing"), named(api.ErrName, "label"),
		def(api.ErrForm, api.Value{Kind: -9}), def(api.ErrType, boolean(1)), def(api.ErrArg, integer(api.MaxInt+1)),
	)
}

// P3.1: a name that a column or a table has already, its own one too.
func TestNamesThatAreTaken(t *testing.T) {
	for _, c := range []api.Change{
		{Kind: api.ChMove, Table: "item", Name: "id", Name2: "id"}, {Kind: api.ChMove, Table: "item", Name: "spare", Name2: "spare"}, {Kind: api.ChMove, Table: "item", Name: "spare", Name2: "id"},
		{Kind: api.ChRename, Table: "box", Name: "box"}, {Kind: api.ChRename, Table: "shelf", Name: "shelf"}, {Kind: api.ChRename, Table: "shelf", Name: "box"},
		{Kind: api.ChAdd, Table: "box", Column: api.Column{Name: "id"}}, {Kind: api.ChCreate, New: api.Table{Name: "box"}}, {Kind: api.ChCreate, New: api.Table{Name: "shelf"}},
		{Kind: api.ChIndex, Table: "box", Index: api.Index{Name: "bylabel"}}, {Kind: api.ChForeign, Table: "item", Foreign: api.Foreign{Name: "box"}},
	} {
		if err := store.CheckChange(depot(t), c); err != api.ErrTwice {
			t.Error(c, err)
		}
	}
}

// P3.1: the casts that are refused beside those of the base of TestChangesOfValues.
func TestCastsThatAreRefused(t *testing.T) {
	s := readSchema(t, "table a", "column b bool", "column i int null default 2", "column s text default 'x'", "column d text default 'true'", "column m moment", "column k text", "key k", "table c", "column k int", "key k", "table d", "column k int", "column up int", "key k", "foreign up d up", "table e", "column k text", "column a text", "key k", "foreign a a a")
	for _, x := range []struct {
		table, name string
		kind        int
		want        api.Errno
	}{
		{"a", "b", api.Moment, api.ErrType}, {"a", "m", api.Bool, api.ErrType}, {"a", "b", api.Int, api.OK}, {"a", "m", api.Int, api.OK}, {"a", "m", api.Text, api.OK},
		{"a", "i", api.Bool, api.OK}, {"a", "i", api.Moment, api.OK}, {"a", "s", api.Int, api.ErrType}, {"a", "s", api.Bool, api.ErrType}, {"a", "d", api.Bool, api.OK}, {"a", "d", api.Int, api.ErrType},
		{"a", "b", api.Bool, api.ErrType}, {"a", "i", api.Int, api.ErrType}, {"a", "s", api.Text, api.ErrType}, {"a", "m", api.Moment, api.ErrType},
		{"a", "k", api.Int, api.ErrRef}, {"c", "k", api.Text, api.OK}, {"d", "k", api.Text, api.ErrRef}, {"d", "up", api.Text, api.ErrRef}, {"e", "a", api.Int, api.ErrRef}, {"e", "k", api.Int, api.OK},
	} {
		if err := store.CheckChange(s, api.Change{Kind: api.ChCast, Table: x.table, Name: x.name, Column: api.Column{Kind: x.kind}}); err != x.want {
			t.Error(x, err)
		}
	}
}

// P3.1
func TestChangesOfLists(t *testing.T) {
	tryChange(t, api.Change{Kind: api.ChIndex, Table: "item", Index: api.Index{Name: "a", Columns: []string{"n", "up"}, Unique: true}}, []string{"Table", "Index"},
		wrong("Index.Name", api.ErrTwice, func(c *api.Change) { c.Index.Name = "byname" }),
		wrong("Index.Name", api.ErrName, func(c *api.Change) { c.Index.Name = "" }),
		wrong("Index.Columns", api.ErrForm, func(c *api.Change) { c.Index.Columns = nil }),
		wrong("Index.Columns", api.ErrLarge, func(c *api.Change) { c.Index.Columns = make([]string, 9) }),
		wrong("Index.Columns", api.ErrName, func(c *api.Change) { c.Index.Columns[1] = "size" }),
		wrong("Index.Columns", api.ErrTwice, func(c *api.Change) { c.Index.Columns[1] = "n" }),
	)
	tryChange(t, api.Change{Kind: api.ChUnindex, Table: "item", Name: "byname"}, []string{"Table", "Name"}, named(api.ErrName, "bysize"), named(api.ErrName, ""), named(api.ErrName, "box"))
	tryChange(t, api.Change{Kind: api.ChForeign, Table: "item", Foreign: api.Foreign{Name: "a", Columns: []string{"name", "n"}, Table: "shelf"}}, []string{"Table", "Foreign"},
		wrong("Foreign.Name", api.ErrTwice, func(c *api.Change) { c.Foreign.Name = "up" }),
		wrong("Foreign.Name", api.ErrName, func(c *api.Change) { c.Foreign.Name = "A" }),
		wrong("Foreign.Columns", api.ErrName, func(c *api.Change) { c.Foreign.Columns[1] = "size" }),
		wrong("Foreign.Columns", api.ErrTwice, func(c *api.Change) { c.Foreign.Columns[1] = "name" }),
		wrong("Foreign.Table", api.ErrName, func(c *api.Change) { c.Foreign.Table = "none" }),
		wrong("Foreign.Table", api.ErrForm, func(c *api.Change) { c.Foreign.Table = "box" }),
		wrong("Foreign.Columns", api.ErrType, func(c *api.Change) { c.Foreign.Columns = []string{"n", "name"} }),
	)
	tryChange(t, api.Change{Kind: api.ChUnforeign, Table: "item", Name: "shelf"}, []string{"Table", "Name"}, named(api.ErrName, "byname"), named(api.ErrName, ""), named(api.ErrName, "label"))
}

// P3.1: a schema that a change would make too large.
func TestChangesAtLimits(t *testing.T) {
	var full api.Schema
	for i := range api.MaxTables {
		full.Tables = append(full.Tables, api.Table{Name: "t" + strconv.Itoa(100+i), Columns: []api.Column{{Name: "id", Kind: api.Int}}, Key: []string{"id"}})
	}
	first := &full.Tables[0]
	for i := range api.MaxColumns - 1 {
		first.Columns = append(first.Columns, api.Column{Name: "c" + strconv.Itoa(i), Kind: api.Int, Null: true})
	}
	for i := range api.MaxIndexes {
		first.Indexes = append(first.Indexes, api.Index{Name: "i" + strconv.Itoa(100+i), Columns: []string{"id"}})
		first.Foreigns = append(first.Foreigns, api.Foreign{Name: "f" + strconv.Itoa(100+i), Columns: []string{"id"}, Table: "t105"})
	}
	must(t, schema.CheckSchema(full))
	less := clone(full)
	less.Tables = less.Tables[:len(less.Tables)-1]
	less.Tables[0].Columns, less.Tables[0].Indexes, less.Tables[0].Foreigns = less.Tables[0].Columns[1:], less.Tables[0].Indexes[1:], less.Tables[0].Foreigns[1:]
	less.Tables[0].Columns[0] = first.Columns[0]
	for _, c := range []api.Change{
		{Kind: api.ChCreate, New: api.Table{Name: "a", Columns: []api.Column{{Name: "id", Kind: api.Int}}, Key: []string{"id"}}},
		{Kind: api.ChAdd, Table: "t100", Column: api.Column{Name: "more", Kind: api.Int, Null: true}},
		{Kind: api.ChIndex, Table: "t100", Index: api.Index{Name: "more", Columns: []string{"id"}}},
		{Kind: api.ChForeign, Table: "t100", Foreign: api.Foreign{Name: "more", Columns: []string{"id"}, Table: "t100"}},
	} {
		if a, b := store.CheckChange(full, c), store.CheckChange(less, c); a != api.ErrLarge || b != api.OK {
			t.Error(c.Kind, a, b)
		}
	}
}
