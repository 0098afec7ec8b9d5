package schema_test

import (
	"slices"
	"strconv"
	"strings"
	"testing"

	"dumbwaiter/api"
	"dumbwaiter/schema"
)

// tables is a schema whose faults are tried.
func tables(t testing.TB) api.Schema {
	return readSchema(t,
		"table a", "column x int", "column y text default 'a'", "column z moment null", "key x y",
		"foreign f b z", "foreign g a x y", "index i z x", "unique j y",
		"table b", "column k moment", "column l int", "column m text", "key k", "foreign f a l m", "foreign h b k", "index i k l",
	)
}

// ofSchema makes a fault of a schema.
func ofSchema(spot string, want api.Errno, change func(s *api.Schema)) fault[api.Schema] {
	return fault[api.Schema]{spot, change, want}
}

// ofTable makes a fault of a table.
func ofTable(spot string, i int, want api.Errno, change func(t *api.Table)) fault[api.Schema] {
	return ofSchema(spot, want, func(s *api.Schema) { change(&s.Tables[i]) })
}

// P2.10
func columnFaults() []fault[api.Schema] {
	return []fault[api.Schema]{
		ofSchema("tables", api.ErrLarge, func(s *api.Schema) { s.Tables = append(s.Tables, make([]api.Table, 59)...) }),
		ofTable("a", 0, api.ErrName, func(t *api.Table) { t.Name = "A" }),
		ofTable("a size", 0, api.ErrLarge, func(t *api.Table) { t.Columns = append(t.Columns, make([]api.Column, 58)...) }),
		ofTable("a size", 0, api.ErrLarge, func(t *api.Table) { t.Key = make([]string, 9) }),
		ofTable("a size", 0, api.ErrLarge, func(t *api.Table) { t.Foreigns = append(t.Foreigns, make([]api.Foreign, 19)...) }),
		ofTable("a size", 0, api.ErrLarge, func(t *api.Table) { t.Indexes = append(t.Indexes, make([]api.Index, 19)...) }),
		ofTable("x", 0, api.ErrName, func(t *api.Table) { t.Columns[0].Name = "" }),
		ofTable("x kind", 0, api.ErrKind, func(t *api.Table) { t.Columns[0].Kind = 0 }),
		ofTable("x kind", 0, api.ErrKind, func(t *api.Table) { t.Columns[0].Kind = 5 }),
		ofTable("x default", 0, api.ErrForm, func(t *api.Table) { t.Columns[0].Default = api.Value{Kind: 9} }),
		ofTable("x default", 0, api.ErrType, func(t *api.Table) { t.Columns[0].Default = text("a") }),
		ofTable("x default", 0, api.ErrArg, func(t *api.Table) { t.Columns[0].Default = integer(api.MaxInt + 1) }),
		ofTable("y", 0, api.ErrTwice, func(t *api.Table) { t.Columns[1].Name = "x" }),
		ofTable("y kind", 0, api.ErrKind, func(t *api.Table) { t.Columns[1].Kind = -1 }),
		ofTable("a key", 0, api.ErrForm, func(t *api.Table) { t.Key = nil }),
		ofTable("a key", 0, api.ErrName, func(t *api.Table) { t.Key = []string{"x", "none", "x"} }),
		ofTable("a key", 0, api.ErrTwice, func(t *api.Table) { t.Key = []string{"x", "x", "none"} }),
		ofTable("a key", 0, api.ErrNull, func(t *api.Table) { t.Key = []string{"x", "z", "x"} }),
		ofTable("a key", 0, api.ErrNull, func(t *api.Table) { t.Columns[1].Null = true }),
	}
}

// P2.10
func listFaults() []fault[api.Schema] {
	return []fault[api.Schema]{
		ofTable("af", 0, api.ErrName, func(t *api.Table) { t.Foreigns[0].Name = "_" }),
		ofTable("af columns", 0, api.ErrName, func(t *api.Table) { t.Foreigns[0].Columns = []string{"none"} }),
		ofTable("af columns", 0, api.ErrTwice, func(t *api.Table) { t.Foreigns[0].Columns = []string{"z", "z", "none"} }),
		ofTable("ag", 0, api.ErrOrder, func(t *api.Table) { t.Foreigns[1].Name = "a" }),
		ofTable("ag", 0, api.ErrOrder, func(t *api.Table) { t.Foreigns[1].Name = t.Foreigns[0].Name }),
		ofTable("ag", 0, api.ErrName, func(t *api.Table) { t.Foreigns[1].Name = "" }),
		ofTable("ai", 0, api.ErrName, func(t *api.Table) { t.Indexes[0].Name = long(41) }),
		ofTable("ai columns", 0, api.ErrForm, func(t *api.Table) { t.Indexes[0].Columns = nil }),
		ofTable("ai columns", 0, api.ErrLarge, func(t *api.Table) { t.Indexes[0].Columns = make([]string, 9) }),
		ofTable("ai columns", 0, api.ErrName, func(t *api.Table) { t.Indexes[0].Columns = make([]string, 8) }),
		ofTable("ai columns", 0, api.ErrName, func(t *api.Table) { t.Indexes[0].Columns = []string{"z", "none", "z"} }),
		ofTable("ai columns", 0, api.ErrTwice, func(t *api.Table) { t.Indexes[0].Columns = []string{"z", "z", "none"} }),
		ofTable("aj", 0, api.ErrOrder, func(t *api.Table) { t.Indexes[1].Name = "i" }),
		ofTable("aj", 0, api.ErrOrder, func(t *api.Table) { t.Indexes[1].Name = "h" }),
		ofTable("b", 1, api.ErrOrder, func(t *api.Table) { t.Name = "a" }),
		ofTable("b", 1, api.ErrName, func(t *api.Table) { t.Name = "0" }),
		ofTable("b key", 1, api.ErrForm, func(t *api.Table) { t.Key = []string{} }),
		ofTable("b index", 1, api.ErrName, func(t *api.Table) { t.Indexes[0].Columns = []string{"x"} }),
		// What foreign keys refer to is asked behind all tables.
		ofTable("af table", 0, api.ErrName, func(t *api.Table) { t.Foreigns[0].Table = "none" }),
		ofTable("af table", 0, api.ErrName, func(t *api.Table) { t.Foreigns[0].Table = "" }),
		ofTable("af table", 0, api.ErrForm, func(t *api.Table) { t.Foreigns[0].Table = "a" }),
		ofTable("af table", 0, api.ErrForm, func(t *api.Table) { t.Foreigns[0].Columns = nil }),
		ofTable("af table", 0, api.ErrType, func(t *api.Table) { t.Foreigns[0].Columns = []string{"x"} }),
		ofTable("ag table", 0, api.ErrType, func(t *api.Table) { t.Foreigns[1].Columns = []string{"y", "x"} }),
		ofTable("ag table", 0, api.ErrForm, func(t *api.Table) { t.Foreigns[1].Table = "b" }),
		ofTable("bf table", 1, api.ErrName, func(t *api.Table) { t.Foreigns[0].Table = "none" }),
	}
}

// P2.10
func TestCheckSchemaFaults(t *testing.T) {
	tryFaults(t, tables(t), schema.CheckSchema, append(columnFaults(), listFaults()...))
}

// P2.10: schemas at the limits are right.
func TestCheckSchemaAtLimits(t *testing.T) {
	var s api.Schema
	for i := range 60 {
		table := api.Table{Name: "t" + strconv.Itoa(100+i)}
		for k := range 60 {
			table.Columns = append(table.Columns, api.Column{Name: "c" + strconv.Itoa(k), Kind: api.Int})
		}
		for k := range 8 {
			table.Key = append(table.Key, table.Columns[59-k].Name)
		}
		for k := range 20 {
			table.Foreigns = append(table.Foreigns, api.Foreign{Name: "f" + strconv.Itoa(100+k), Columns: table.Key, Table: "t159"})
			table.Indexes = append(table.Indexes, api.Index{Name: "f" + strconv.Itoa(100+k), Columns: table.Key})
		}
		s.Tables = append(s.Tables, table)
	}
	if err := schema.CheckSchema(s); err != api.OK {
		t.Error(err)
	}
	if text, err := schema.SchemaText(s); err != api.ErrLarge || text != "" {
		t.Error(err, len(text))
	}
	if err := schema.CheckSchema(api.Schema{}); err != api.OK {
		t.Error(err)
	}
}

// P2.11
func TestSchemaText(t *testing.T) {
	want := api.Schema{Tables: []api.Table{
		{
			Name: "a_1", Columns: []api.Column{{Name: "b", Kind: api.Bool, Default: boolean(1)}, {Name: "i_", Kind: api.Int, Null: true, Default: integer(-5)}, {Name: "t", Kind: api.Text, Default: text("it's  so")}, {Name: "m", Kind: api.Moment, Null: true}},
			Key: []string{"t", "b"}, Foreigns: []api.Foreign{{Name: "f_", Columns: []string{"m"}, Table: "b"}}, Indexes: []api.Index{{Name: "x", Columns: []string{"m", "t"}}, {Name: "y", Columns: []string{"i_"}, Unique: true}, {Name: "z", Columns: []string{"b"}}},
		},
		{Name: "b", Columns: []api.Column{{Name: "m", Kind: api.Moment}}, Key: []string{"m"}},
	}}
	text := lines(
		"table a_1", "column b bool default true", "column i_ int null default -5", "column t text default 'it''s  so'", "column m moment null", "key t b", "foreign f_ b m", "index x m t", "unique y i_", "index z b",
		"table b", "column m moment", "key m",
	)
	if s, err := schema.SchemaText(want); err != api.OK || s != text {
		t.Error(s, err)
	}
	if s, err := schema.SchemaRead(text); err != api.OK || !same(s, want) {
		t.Error(s, err)
	}
	if s, err := schema.SchemaRead(""); err != api.OK || !same(s, api.Schema{}) {
		t.Error(s, err)
	}
	if s, err := schema.SchemaText(api.Schema{}); err != api.OK || s != "" {
		t.Error(s, err)
	}
	want.Tables[1].Key = nil
	if s, err := schema.SchemaText(want); err != api.ErrForm || s != "" {
		t.Error(s, err)
	}
}

// P2.11
func TestSchemaReadSyntax(t *testing.T) {
	for _, s := range []string{
		"\n", "table a", "table a\n", "table a\nkey", "table a\nkey\n\n", "\ntable a\nkey\n", "key\n", "column x int\n", "foreign a b\n", "index a x\n", " table a\nkey\n", "table a \nkey\n", "table  a\nkey\n", "table\nkey\n", "table A\nkey\n", "table a.b\nkey\n", "table a b\nkey\n", "entity a\n", "table a\r\nkey\r\n",
		"table a\nkey x\nkey x\n", "table a\nkey\nkey\n", "table a\nkey\ncolumn x int\n", "table a\nforeign f b\nkey\n", "table a\nindex f x\nkey\n", "table a\nkey\nindex f x\nforeign f b\n", "table a\nkey\ntable b\n", "table a\ntable b\nkey\n", "table a\nkey\nkeys\n", "table a\nkey\nprimary\n",
		"table a\nkey \n", "table a\nkey x \n", "table a\nkey  x\n", "table a\nkey x,y\n", "table a\nkey X\n", "table a\nkey x.y\n",
	} {
		if x, err := schema.SchemaRead(s); err != api.ErrSyntax || !same(x, api.Schema{}) {
			t.Errorf("%q %v %d", s, x, err)
		}
	}
	for _, line := range []string{
		"column", "column x", "column x ", "column x y", "column x embed", "column x null", "column X int", "column x.y int", "column x int ", "column x  int", "column x int null null", "column x int default", "column x int default null", "column x int default 05", "column x int default 1 null", "column x text default 'a", "column x text default a", "column x text texts 'a'", "column x int = 1", "column x text default 'a' texts", "column x int texts",
	} {
		if x, err := schema.SchemaRead(lines("table a", line, "key x")); err != api.ErrSyntax || !same(x, api.Schema{}) {
			t.Errorf("%q %v %d", line, x, err)
		}
	}
	for _, line := range []string{
		"foreign", "foreign f", "foreign f ", "foreign f a ", "foreign F a x", "foreign f A x", "foreign f a X", "foreign f a  x", "foreign f a x,y", "foreign f a x.y", "index", "index ", "index i ", "index I x", "index i X", "index i  x", "index i 'x'", "unique", "unique i ", "unique i.j x", "uniques i x",
	} {
		if x, err := schema.SchemaRead(lines("table a", "column x int", "key x", line)); err != api.ErrSyntax || !same(x, api.Schema{}) {
			t.Errorf("%q %v %d", line, x, err)
		}
	}
}

// P2.11: texts of schemas that CheckSchema does not accept.
func TestSchemaReadErrors(t *testing.T) {
	for _, x := range []struct {
		s    string
		want api.Errno
	}{
		{"table a\nkey\n", api.ErrForm}, {"table _\nkey\n", api.ErrName}, {"table 1_\nkey\n", api.ErrName}, {"table " + long(41) + "\nkey\n", api.ErrName}, {strings.Repeat("table a\nkey\n", 61), api.ErrLarge}, {"table b\ncolumn x int\nkey x\ntable a\nkey\n", api.ErrOrder},
		{"table a\ncolumn _ int\nkey\n", api.ErrName}, {"table a\ncolumn x int default 'a'\nkey\n", api.ErrType}, {"table a\nkey _ _\n", api.ErrName}, {"table a\ncolumn x int\nkey x\nforeign f a\n", api.ErrForm}, {"table a\ncolumn x int\nkey x\nindex i\n", api.ErrForm}, {"table a\ncolumn x int\nkey x\nunique _ x\n", api.ErrName}, {"table a\ncolumn x int\nkey x\nunique i x\nindex i x\n", api.ErrOrder},
		{strings.Repeat(" ", api.MaxListing+1), api.ErrLarge}, {strings.Repeat(" ", api.MaxListing), api.ErrSyntax}, {"table " + long(api.MaxListing-11) + "\nkey\n", api.ErrName}, {"table " + long(api.MaxListing-10) + "\nkey\n", api.ErrLarge},
	} {
		if s, err := schema.SchemaRead(x.s); err != x.want || !same(s, api.Schema{}) {
			t.Errorf("%.100q %d %d", x.s, x.want, err)
		}
	}
}

// P2.11: the limit of the text.
func TestSchemaTextLarge(t *testing.T) {
	wide := func(bytes int) api.Schema {
		var s api.Schema
		for i := range 10 {
			table := api.Table{Name: "t" + strconv.Itoa(i), Columns: []api.Column{{Name: "k", Kind: api.Int}}, Key: []string{"k"}}
			bytes -= len("table t0\ncolumn k int\nkey k\n")
			for k := range 59 {
				c := api.Column{Name: "c" + strconv.Itoa(100+k), Kind: api.Text, Default: text("")}
				bytes -= len("column c100 text default ''\n")
				c.Default.S = long(max(min(bytes-(59*10-59*i-k)*30, 100), 0))
				bytes -= len(c.Default.S)
				table.Columns = append(table.Columns, c)
			}
			s.Tables = append(s.Tables, table)
		}
		s.Tables[9].Columns[59].Default.S += long(bytes)
		return s
	}
	for _, bytes := range []int{api.MaxListing - 1, api.MaxListing} {
		s := wide(bytes)
		text, err := schema.SchemaText(s)
		if err != api.OK || len(text) != bytes {
			t.Error(bytes, len(text), err)
		}
		if back, err := schema.SchemaRead(text); err != api.OK || !same(back, s) {
			t.Error(bytes, err)
		}
	}
	s := wide(api.MaxListing + 1)
	if text, err := schema.SchemaText(s); err != api.ErrLarge || text != "" || schema.CheckSchema(s) != api.OK {
		t.Error(err, len(text))
	}
}

// P2.11
func TestSchemaTextOfRandomSchemas(t *testing.T) {
	randomly(t, 800, func(t *testing.T, r maker) {
		s := r.schema()
		if r.chance(2) {
			s, _ = schema.Tables(r.model())
		}
		text, err := schema.SchemaText(s)
		back, backErr := schema.SchemaRead(text)
		if err != api.OK || backErr != api.OK || !same(back, s) {
			t.Error(text, err, backErr)
		}
		bytes := []byte(text)
		bytes[r.Intn(len(bytes))] = " \n'=:._,()aefnx01"[r.Intn(17)]
		if other, err := schema.SchemaRead(string(bytes)); err == api.OK {
			if again, err := schema.SchemaText(other); err != api.OK || again != string(bytes) {
				t.Error(again, string(bytes))
			}
		} else if !same(other, api.Schema{}) {
			t.Error(other, err)
		}
	})
}

// P2.11: SchemaRead accepts nothing but what SchemaText writes.
func FuzzSchemaRead(f *testing.F) {
	f.Add(lines(zooTables()...))
	f.Add("table a\ncolumn x text null default 'a'\ncolumn y int\nkey y\nforeign f a y\nindex i x\nunique j x y\n")
	f.Fuzz(func(t *testing.T, s string) {
		x, err := schema.SchemaRead(s)
		if err != api.OK {
			if !same(x, api.Schema{}) {
				t.Error(s, x)
			}
			return
		}
		if back, err := schema.SchemaText(x); err != api.OK || back != s {
			t.Error(s, back, err)
		}
	})
}

// wantedOrder is Order as P2.12 says it, with ways found by squaring.
func wantedOrder(s api.Schema) ([]string, []string) {
	ways := map[[2]string]bool{}
	direct := func(t api.Table, to string) bool {
		return slices.ContainsFunc(t.Foreigns, func(f api.Foreign) bool { return f.Table == to })
	}
	for _, a := range s.Tables {
		for _, b := range s.Tables {
			ways[[2]string{a.Name, b.Name}] = direct(a, b.Name)
		}
	}
	for range s.Tables {
		for _, a := range s.Tables {
			for _, b := range s.Tables {
				for _, c := range s.Tables {
					if ways[[2]string{a.Name, b.Name}] && ways[[2]string{b.Name, c.Name}] {
						ways[[2]string{a.Name, c.Name}] = true
					}
				}
			}
		}
	}
	circle := func(a, b string) bool {
		return a != b && ways[[2]string{a, b}] && ways[[2]string{b, a}]
	}
	var order, circles []string
	for _, a := range s.Tables {
		if slices.ContainsFunc(s.Tables, func(b api.Table) bool { return direct(a, b.Name) && circle(a.Name, b.Name) }) {
			circles = append(circles, a.Name)
		}
	}
	for len(order) < len(s.Tables) {
		var ready []string
		for _, a := range s.Tables {
			ok := !slices.Contains(order, a.Name)
			for _, f := range a.Foreigns {
				ok = ok && (f.Table == a.Name || slices.Contains(order, f.Table) || circle(a.Name, f.Table))
			}
			if ok {
				ready = append(ready, a.Name)
			}
		}
		order = append(order, slices.Min(ready))
	}
	return order, circles
}

// P2.12
func TestOrder(t *testing.T) {
	table := func(name string, to ...string) []string {
		l := []string{"table " + name, "column x int", "key x"}
		for i, s := range to {
			l = append(l, "foreign f"+strconv.Itoa(i)+" "+s+" x")
		}
		return l
	}
	for _, x := range []struct {
		tables         [][]string
		order, circles string
	}{
		{nil, "", ""}, {[][]string{table("a")}, "a", ""}, {[][]string{table("a", "a")}, "a", ""}, {[][]string{table("a"), table("b")}, "a b", ""}, {[][]string{table("a", "b"), table("b")}, "b a", ""},
		{[][]string{table("a", "c"), table("b"), table("c"), table("d", "a")}, "b c a d", ""}, {[][]string{table("a", "d"), table("b"), table("c", "a"), table("d")}, "b d a c", ""},
		{[][]string{table("a", "b"), table("b", "a")}, "a b", "a b"}, {[][]string{table("a", "b", "c"), table("b", "a"), table("c")}, "b c a", "a b"}, {[][]string{table("a", "b"), table("b", "c"), table("c", "b")}, "b a c", "b c"},
		// Two circles, one of which refers to the other one, and a table between them that is in none.
		{[][]string{table("a", "b"), table("b", "a", "m"), table("m", "x"), table("x", "y", "x"), table("y", "x")}, "a x m b y", "a b x y"},
		{[][]string{table("a", "c"), table("b", "a"), table("c", "b", "d"), table("d"), table("e", "a")}, "a b d c e", "a b c"},
	} {
		var s api.Schema
		if len(x.tables) > 0 {
			s = readSchema(t, slices.Concat(x.tables...)...)
		}
		order, circles, err := schema.Order(s)
		if err != api.OK || strings.Join(order, " ") != x.order || strings.Join(circles, " ") != x.circles {
			t.Error(x, order, circles, err)
		}
	}
	s := tables(t)
	s.Tables[1].Foreigns[0].Table = "none"
	if order, circles, err := schema.Order(s); err != api.ErrName || len(order)+len(circles) > 0 {
		t.Error(order, circles, err)
	}
}

// P2.12
func TestOrderOfRandomSchemas(t *testing.T) {
	randomly(t, 1000, func(t *testing.T, r maker) {
		s := r.schema()
		order, circles, err := schema.Order(s)
		wantOrder, wantCircles := wantedOrder(s)
		if err != api.OK || !slices.Equal(order, wantOrder) || !slices.Equal(circles, wantCircles) {
			text, _ := schema.SchemaText(s)
			t.Error(text, order, wantOrder, circles, wantCircles, err)
		}
	})
}
