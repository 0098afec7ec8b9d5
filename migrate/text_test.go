package migrate_test

import (
	"hash/fnv"
	"slices"
	"strconv"
	"strings"
	"testing"

	"dumbwaiter/api"
	"dumbwaiter/migrate"
)

// allLines are the text of a migration with everything that texts can have.
func allLines() []string {
	return []string{
		"migration 20 all_of_it2", "up",
		"create pet", "column id int", "column name text null default 'it''s  a ''pet'''", "column seen moment default @2026-11-17T09:05:00", "column good bool null", "key id name", "foreign owner person seen good", "foreign x pet id", "index i id", "unique u name id", "end",
		"drop pet", "rename pet cat",
		"add pet age int", "add pet age int null", "add pet age int null default -5", "add pet age text default ''", "add pet age bool default true", "add pet age moment default 7",
		"remove pet age", "move pet age years", "cast pet age bool", "cast pet age int", "cast pet age text", "cast pet age moment", "loose pet age",
		"tight pet age null", "tight pet age 'a b'", "default pet age null", "default pet age false", "default pet age 999999999999999",
		"index pet i age", "unique pet i age name", "unindex pet i", "foreign pet owner person id seen", "unforeign pet owner", "order pet age id",
		"down",
		"create a", "key", "end", "create b", "column b text", "key b b", "foreign f b", "index i", "unique i", "end", "index pet i", "unique pet i", "foreign pet f pet", "order pet",
	}
}

// all is this migration.
func all() api.Migration {
	table := func(kind int, more api.Change) api.Change {
		more.Kind, more.Table = kind, "pet"
		return more
	}
	age := func(kind int, c api.Column) api.Change {
		return table(kind, api.Change{Name: "age", Column: c})
	}
	add := func(c api.Column) api.Change {
		c.Name = "age"
		return table(api.ChAdd, api.Change{Column: c})
	}
	return api.Migration{Number: 20, Name: "all_of_it2",
		Up: []api.Change{
			{Kind: api.ChCreate, New: api.Table{Name: "pet",
				Columns:  []api.Column{{Name: "id", Kind: api.Int}, {Name: "name", Kind: api.Text, Null: true, Default: text("it's  a 'pet'")}, {Name: "seen", Kind: api.Moment, Default: moment(1794906300)}, {Name: "good", Kind: api.Bool, Null: true}},
				Key:      []string{"id", "name"},
				Foreigns: []api.Foreign{{Name: "owner", Table: "person", Columns: []string{"seen", "good"}}, {Name: "x", Table: "pet", Columns: []string{"id"}}},
				Indexes:  []api.Index{{Name: "i", Columns: []string{"id"}}, {Name: "u", Columns: []string{"name", "id"}, Unique: true}},
			}},
			table(api.ChDrop, api.Change{}), table(api.ChRename, api.Change{Name: "cat"}),
			add(api.Column{Kind: api.Int}), add(api.Column{Kind: api.Int, Null: true}), add(api.Column{Kind: api.Int, Null: true, Default: integer(-5)}), add(api.Column{Kind: api.Text, Default: text("")}), add(api.Column{Kind: api.Bool, Default: boolean(1)}), add(api.Column{Kind: api.Moment, Default: integer(7)}),
			age(api.ChRemove, api.Column{}), table(api.ChMove, api.Change{Name: "age", Name2: "years"}), age(api.ChCast, api.Column{Kind: api.Bool}), age(api.ChCast, api.Column{Kind: api.Int}), age(api.ChCast, api.Column{Kind: api.Text}), age(api.ChCast, api.Column{Kind: api.Moment}), age(api.ChLoose, api.Column{}),
			age(api.ChTight, api.Column{}), age(api.ChTight, api.Column{Default: text("a b")}), age(api.ChDefault, api.Column{}), age(api.ChDefault, api.Column{Default: boolean(0)}), age(api.ChDefault, api.Column{Default: integer(api.MaxInt)}),
			table(api.ChIndex, api.Change{Index: api.Index{Name: "i", Columns: []string{"age"}}}), table(api.ChIndex, api.Change{Index: api.Index{Name: "i", Columns: []string{"age", "name"}, Unique: true}}), table(api.ChUnindex, api.Change{Name: "i"}),
			table(api.ChForeign, api.Change{Foreign: api.Foreign{Name: "owner", Table: "person", Columns: []string{"id", "seen"}}}), table(api.ChUnforeign, api.Change{Name: "owner"}), table(api.ChOrder, api.Change{Columns: []string{"age", "id"}}),
		},
		Down: []api.Change{
			{Kind: api.ChCreate, New: api.Table{Name: "a"}},
			{Kind: api.ChCreate, New: api.Table{Name: "b", Columns: []api.Column{{Name: "b", Kind: api.Text}}, Key: []string{"b", "b"}, Foreigns: []api.Foreign{{Name: "f", Table: "b"}}, Indexes: []api.Index{{Name: "i"}, {Name: "i", Unique: true}}}},
			table(api.ChIndex, api.Change{Index: api.Index{Name: "i"}}), table(api.ChIndex, api.Change{Index: api.Index{Name: "i", Unique: true}}), table(api.ChForeign, api.Change{Foreign: api.Foreign{Name: "f", Table: "pet"}}), table(api.ChOrder, api.Change{}),
		},
	}
}

// P6.11: everything that texts can have.
func TestText(t *testing.T) {
	want := lines(allLines()...)
	if s, err := migrate.Text(all()); s != want || err != api.OK {
		t.Error(s, err)
	}
	if m, err := migrate.Read(want); !same(m, all()) || err != api.OK {
		t.Error(m, err)
	}
	empty := api.Migration{Number: api.MaxInt, Name: long(api.MaxTall)}
	want = "migration 999999999999999 " + long(api.MaxTall) + "\nup\ndown\n"
	if s, err := migrate.Text(empty); s != want || err != api.OK {
		t.Error(s, err)
	}
	if m, err := migrate.Read(want); !same(m, empty) || err != api.OK {
		t.Error(m, err)
	}
}

// textBase is a migration with changes of all kinds, in Up and Down.
func textBase() api.Migration {
	m := all()
	m.Down = slices.Clone(m.Up)
	return m
}

// textFaults are the errors of Text, in order.
func textFaults() []fault[api.Migration] {
	l := []fault[api.Migration]{
		{"number", func(m *api.Migration) { m.Number = 0 }, api.ErrArg},
		{"number", func(m *api.Migration) { m.Number = -1 }, api.ErrArg},
		{"number", func(m *api.Migration) { m.Number = api.MaxInt + 1 }, api.ErrArg},
		{"name", func(m *api.Migration) { m.Name = "" }, api.ErrName},
		{"name", func(m *api.Migration) { m.Name = "2a" }, api.ErrName},
		{"name", func(m *api.Migration) { m.Name = "a.b" }, api.ErrName},
		{"name", func(m *api.Migration) { m.Name = "A" }, api.ErrName},
		{"name", func(m *api.Migration) { m.Name = long(api.MaxTall + 1) }, api.ErrName},
		{"large", func(m *api.Migration) { m.Up = append(m.Up, make([]api.Change, api.MaxChanges)...) }, api.ErrLarge},
		{"large", func(m *api.Migration) { m.Down = append(m.Down, make([]api.Change, api.MaxChanges)...) }, api.ErrLarge},
	}
	up := func(i int, want api.Errno, change func(c *api.Change)) {
		l = append(l, fault[api.Migration]{"up" + strconv.Itoa(i), func(m *api.Migration) { change(&m.Up[i]) }, want})
	}
	// ChCreate: names of all parts, then kinds, then Defaults.
	up(0, api.ErrKind, func(c *api.Change) { c.Kind = 0 })
	up(0, api.ErrKind, func(c *api.Change) { c.Kind = api.ChOrder + 1 })
	up(0, api.ErrForm, func(c *api.Change) { c.Table = "pet" })
	up(0, api.ErrForm, func(c *api.Change) { c.Name = "pet" })
	up(0, api.ErrForm, func(c *api.Change) { c.Columns = []string{"id"} })
	up(0, api.ErrName, func(c *api.Change) { c.New.Name = "" })
	up(0, api.ErrName, func(c *api.Change) { c.New.Columns[3].Name = "_" })
	up(0, api.ErrName, func(c *api.Change) { c.New.Key[1] = "" })
	up(0, api.ErrName, func(c *api.Change) { c.New.Foreigns[1].Name = "X" })
	up(0, api.ErrName, func(c *api.Change) { c.New.Foreigns[1].Table = "a b" })
	up(0, api.ErrName, func(c *api.Change) { c.New.Foreigns[0].Columns[1] = "9" })
	up(0, api.ErrName, func(c *api.Change) { c.New.Indexes[1].Name = "" })
	up(0, api.ErrName, func(c *api.Change) { c.New.Indexes[1].Columns[1] = long(41) })
	up(0, api.ErrKind, func(c *api.Change) { c.New.Columns[3].Kind = 0 })
	up(0, api.ErrKind, func(c *api.Change) { c.New.Columns[0].Kind = 5 })
	up(0, api.ErrKind, func(c *api.Change) { c.New.Columns[3].Default.Kind = 5 })
	up(0, api.ErrKind, func(c *api.Change) { c.New.Columns[0].Default.Kind = -1 })
	up(0, api.ErrForm, func(c *api.Change) { c.New.Columns[0].Default.N = 1 })
	up(0, api.ErrForm, func(c *api.Change) { c.New.Columns[1].Default.N = 1 })
	up(0, api.ErrLarge, func(c *api.Change) { c.New.Columns[1].Default.S = long(101) })
	up(0, api.ErrArg, func(c *api.Change) { c.New.Columns[1].Default.S = "\n" })
	// The others.
	up(1, api.ErrForm, func(c *api.Change) { c.New.Name = "x" })
	up(1, api.ErrForm, func(c *api.Change) { c.New.Indexes = []api.Index{{}} })
	up(1, api.ErrName, func(c *api.Change) { c.Table = "" })
	up(2, api.ErrForm, func(c *api.Change) { c.Name2 = "x" })
	up(2, api.ErrName, func(c *api.Change) { c.Table = "é" })
	up(2, api.ErrName, func(c *api.Change) { c.Name = "" })
	up(5, api.ErrForm, func(c *api.Change) { c.Name = "x" })
	up(5, api.ErrName, func(c *api.Change) { c.Table = "" })
	up(5, api.ErrName, func(c *api.Change) { c.Column.Name = "" })
	up(5, api.ErrKind, func(c *api.Change) { c.Column.Kind = 0 })
	up(5, api.ErrKind, func(c *api.Change) { c.Column.Default.Kind = 5 })
	up(5, api.ErrForm, func(c *api.Change) { c.Column.Default.S = "x" })
	up(5, api.ErrArg, func(c *api.Change) { c.Column.Default.N = api.MaxInt + 1 })
	up(9, api.ErrForm, func(c *api.Change) { c.Column.Default = integer(1) })
	up(9, api.ErrName, func(c *api.Change) { c.Name = "" })
	up(10, api.ErrName, func(c *api.Change) { c.Name2 = "" })
	up(11, api.ErrForm, func(c *api.Change) { c.Column.Name = "x" })
	up(11, api.ErrForm, func(c *api.Change) { c.Column.Null = true })
	up(11, api.ErrForm, func(c *api.Change) { c.Column.Default = integer(1) })
	up(11, api.ErrName, func(c *api.Change) { c.Name = "a-b" })
	up(11, api.ErrKind, func(c *api.Change) { c.Column.Kind = 0 })
	up(11, api.ErrKind, func(c *api.Change) { c.Column.Kind = 5 })
	up(15, api.ErrForm, func(c *api.Change) { c.Column.Kind = api.Int })
	up(16, api.ErrForm, func(c *api.Change) { c.Column.Kind = api.Int })
	up(16, api.ErrForm, func(c *api.Change) { c.Column.Default.N = 1 })
	up(17, api.ErrKind, func(c *api.Change) { c.Column.Default.Kind = 6 })
	up(17, api.ErrLarge, func(c *api.Change) { c.Column.Default.S = long(101) })
	up(19, api.ErrArg, func(c *api.Change) { c.Column.Default.N = 2 })
	up(21, api.ErrForm, func(c *api.Change) { c.Foreign.Name = "x" })
	up(21, api.ErrName, func(c *api.Change) { c.Index.Name = "" })
	up(21, api.ErrName, func(c *api.Change) { c.Index.Columns[0] = "" })
	up(24, api.ErrForm, func(c *api.Change) { c.Index.Unique = true })
	up(24, api.ErrName, func(c *api.Change) { c.Foreign.Name = "1" })
	up(24, api.ErrName, func(c *api.Change) { c.Foreign.Table = "" })
	up(24, api.ErrName, func(c *api.Change) { c.Foreign.Columns[1] = "x'" })
	up(26, api.ErrForm, func(c *api.Change) { c.Name = "x" })
	up(26, api.ErrName, func(c *api.Change) { c.Columns[1] = "" })
	return append(l,
		fault[api.Migration]{"down", func(m *api.Migration) { m.Down[1].Kind = -1 }, api.ErrKind},
		fault[api.Migration]{"down", func(m *api.Migration) { m.Down[26].Table = "" }, api.ErrName},
		fault[api.Migration]{"text", func(m *api.Migration) {
			m.Down[0].New.Key = slices.Repeat([]string{"id"}, api.MaxListing/3+1)
		}, api.ErrLarge},
	)
}

// P6.11, P6.12: errors of Text, which Sum has, too.
func TestTextErrors(t *testing.T) {
	tryFaults(t, textBase(), func(m api.Migration) api.Errno {
		s, err := migrate.Text(m)
		sum, e := migrate.Sum(m)
		if err != api.OK && s != "" || e != err || err != api.OK && sum != 0 {
			t.Error(s, err, sum, e)
		}
		return err
	}, textFaults())
}

// P6.11: texts as long as they can be.
func TestTextBounds(t *testing.T) {
	m := api.Migration{Number: 1, Name: "m", Up: []api.Change{{Kind: api.ChCreate, New: api.Table{Name: "t"}}}}
	s, err := migrate.Text(m)
	must(t, err)
	m.Up[0].New.Key = []string{"ab"}
	m.Up[0].New.Key = append(m.Up[0].New.Key, slices.Repeat([]string{"a"}, (api.MaxListing-len(s)-3)/2)...)
	if s, err = migrate.Text(m); len(s) != api.MaxListing && len(s) != api.MaxListing-1 || err != api.OK {
		t.Fatal(len(s), err)
	}
	if len(s) < api.MaxListing {
		m.Up[0].New.Key[0] = "abc"
		if s, err = migrate.Text(m); len(s) != api.MaxListing || err != api.OK {
			t.Fatal(len(s), err)
		}
	}
	if got, err := migrate.Read(s); !same(got, m) || err != api.OK {
		t.Error(err)
	}
	m.Up[0].New.Key[0] += "a"
	if s, err := migrate.Text(m); s != "" || err != api.ErrLarge {
		t.Error(len(s), err)
	}
	for _, x := range []string{s + " ", strings.Repeat("x", api.MaxListing+1)} {
		if got, err := migrate.Read(x); !same(got, api.Migration{}) || err != api.ErrLarge {
			t.Error(err)
		}
	}
	drops := func(n int) string { return strings.Repeat("drop t\n", n) }
	for _, n := range [][2]int{{api.MaxChanges, api.MaxChanges}, {api.MaxChanges + 1, 0}, {0, api.MaxChanges + 1}} {
		want := api.OK
		if max(n[0], n[1]) > api.MaxChanges {
			want = api.ErrSyntax
		}
		m, err := migrate.Read("migration 1 m\nup\n" + drops(n[0]) + "down\n" + drops(n[1]))
		if err != want || err == api.OK && (len(m.Up) != n[0] || len(m.Down) != n[1]) {
			t.Error(n, err)
		}
	}
}

// P6.11: texts of no migration.
func TestReadErrors(t *testing.T) {
	l := []string{
		"", "\n", "migration 1 m", "migration 1 m\n", "migration 1 m\nup\n", "migration 1 m\ndown\n", "migration 1 m\ndown\nup\n", "migration 1 m\nup\ndown", "migration 1 m\nup\ndown\n\n", "\nmigration 1 m\nup\ndown\n",
		"migration 0 m\nup\ndown\n", "migration 01 m\nup\ndown\n", "migration +1 m\nup\ndown\n", "migration -1 m\nup\ndown\n", "migration x m\nup\ndown\n", "migration 1000000000000000 m\nup\ndown\n", "migration 99999999999999999999 m\nup\ndown\n", "migration  1 m\nup\ndown\n", "migration 1\nup\ndown\n", "migration 1 \nup\ndown\n", "migration 1 m n\nup\ndown\n", "migration 1 M\nup\ndown\n", "migration 1 1m\nup\ndown\n", "migration 1 " + long(41) + "\nup\ndown\n", "Migration 1 m\nup\ndown\n", "migration 1 m\r\nup\ndown\n",
		"migration 1 m\nup\nup\ndown\n", "migration 1 m\nup\ndown\ndown\n", "migration 1 m\nup\ndown\nup\n", "migration 1 m\nup \ndown\n", "migration 1 m\nup x\ndown\n", "migration 1 m\nup\ndown x\n", "migration 1 m\ndrop t\nup\ndown\n", "migration 1 m\nup\ndown\nmigration 1 m\nup\ndown\n",
	}
	for _, c := range []string{
		"", " ", "fly t", "Drop t", "drop", "drop ", "drop  t", "drop t ", " drop t", "drop t u", "drop T", "drop 1", "drop t\n", "drop " + long(41),
		"rename t", "rename t u v", "remove t", "loose t x y", "unindex t", "unforeign t", "move t x", "move t x y z",
		"add t", "add t x", "add t x null", "add t x float", "add t x int default", "add t x int default null", "add t x int null null", "add t x int default 1 null", "add t x int default 1 default 1", "add t x int default 01", "add t x int default 'a", "add t x int texts 'a'", "add t x int default 1 texts", "add t x int 1",
		"cast t x", "cast t x null", "cast t x Int", "cast t x int int", "cast t x ",
		"tight t x", "tight t x 1 2", "tight t x 'a' 'b'", "tight t x 'a", "tight t x \"a\"", "default t x", "default t x x", "default t x -0", "default t x 1000000000000000", "default t x 'é'", "default t x 'a\tb'", "default t x '" + long(101) + "'", "default t x @2026-02-30T00:00:00", "default t x true false",
		"index t", "index", "index t i 1", "index t i a  b", "index t i a ", "uniq t i a", "foreign t f", "foreign t f u A", "order", "order t a,b", "order t ''",
		"end", "column id int", "key", "table t", "create", "create t", "create t\nkey", "create t\nend", "create t\nkey id\ncolumn id int\nend", "create t\nkey\nkey\nend", "create t u\nkey\nend", "create T\nkey\nend", "create t\nkey\nend\nend", "create t\nkey\nend ", "create t\nkey\nend x", "create t\ntable t\nkey\nend", "create t\nkey\ndrop t\nend", "create t\nkey\nindex i\nforeign f t\nend", "create t\nkey\nindex\nend", "create t\nkey\nforeign f\nend", "create t\ncolumn id\nkey\nend", "create t\ncolumn 1 int\nkey\nend", "create t\ncolumn id int default null\nkey\nend", "create t\nkey 1\nend", "create t\nkey\nunique i A\nend", "create t\ncreate u\nkey\nend", "create t\nkey\nend t",
	} {
		l = append(l, "migration 1 m\nup\n"+c+"\ndown\n", "migration 1 m\nup\ndown\n"+c+"\n")
	}
	for _, s := range l {
		if m, err := migrate.Read(s); !same(m, api.Migration{}) || err != api.ErrSyntax {
			t.Errorf("%q %v %v", s, m, err)
		}
	}
}

// P6.11: migrations at random are read again, and spoilt texts are either of none or the text of what was read.
func TestTextsAtRandom(t *testing.T) {
	read := 0
	randomly(t, 1000, func(t *testing.T, r *maker) {
		s := r.schema()
		m := api.Migration{Number: 1 + r.Intn(100), Name: one(r, tableNames)}
		m.Up, _ = r.changes(s, r.Intn(8))
		m.Down, _ = r.changes(s, r.Intn(8))
		x, err := migrate.Text(m)
		must(t, err)
		if got, err := migrate.Read(x); !same(got, m) || err != api.OK {
			t.Error(x, got, err)
		}
		for range 30 {
			if checkRead(t, r.spoilt(x)) {
				read++
			}
		}
		for range 30 {
			if checkRead(t, r.spoilt(lines(allLines()...))) {
				read++
			}
		}
	})
	if read < 1000 {
		t.Error(read)
	}
}

// checkRead checks that a text is of no migration, or that of the one that was read, and reports which.
func checkRead(t *testing.T, s string) bool {
	t.Helper()
	m, err := migrate.Read(s)
	if err == api.ErrSyntax || err == api.ErrLarge {
		return false
	}
	if again, e := migrate.Text(m); again != s || e != api.OK || err != api.OK {
		t.Errorf("%q %q %v %v", s, again, err, e)
	}
	return true
}

// P6.11: whatever is read is written again.
func FuzzRead(f *testing.F) {
	f.Add(lines(allLines()...))
	f.Add("migration 1 m\nup\ndown\n")
	f.Fuzz(func(t *testing.T, s string) { checkRead(t, s) })
}

// P6.12: the sum over the bytes of the text.
func TestSum(t *testing.T) {
	for _, m := range []api.Migration{all(), {Number: 1, Name: "m"}, {Number: 2, Name: "m"}} {
		s, err := migrate.Text(m)
		must(t, err)
		h := fnv.New64a()
		h.Write([]byte(s))
		if sum, err := migrate.Sum(m); sum != h.Sum64() || err != api.OK {
			t.Error(sum, h.Sum64(), err)
		}
	}
	if sum, err := migrate.Sum(api.Migration{Number: 1, Name: "m"}); sum != 560321382337667578 || err != api.OK {
		t.Error(sum, err)
	}
}
