package schema_test

import (
	"testing"

	"dumbwaiter/api"
	"dumbwaiter/schema"
)

// shelf is a schema with references in a circle, to itself, and to a key of two columns.
func shelf(t testing.TB) api.Schema {
	return readSchema(t,
		"table a", "column n int null", "column k int", "column s text", "column m moment null", "column b int null", "key s k", "foreign up a s n", "foreign x b b", "index i m", "unique j n m", "unique l m",
		"table b", "column k int", "column s text null", "column n int null", "key k", "foreign a a s n", "unique u s",
		"table c", "column k bool", "key k",
	)
}

// shelved are right data of it.
func shelved() api.Data {
	row := func(l ...api.Value) []api.Value { return l }
	return api.Data{Tables: []api.TableRows{
		{Table: "a", Rows: [][]api.Value{
			row(null, integer(1), text("x"), moment(1), integer(1)),
			row(integer(1), integer(2), text("x"), null, integer(2)),
			row(integer(1), integer(3), text("x"), null, integer(1)),
			row(null, integer(-9), text("y"), moment(2), null),
		}},
		{Table: "b", Rows: [][]api.Value{
			row(integer(1), text("x"), integer(3)),
			row(integer(2), text("y"), null),
			row(integer(3), null, integer(77)),
			row(integer(4), null, null),
		}},
		{Table: "c"},
	}}
}

// ofData makes a fault of data.
func ofData(spot string, want api.Errno, change func(a, b, c *api.TableRows)) fault[api.Data] {
	return fault[api.Data]{spot, func(d *api.Data) { change(&d.Tables[0], &d.Tables[1], &d.Tables[2]) }, want}
}

// P2.13
func dataFaults() []fault[api.Data] {
	return []fault[api.Data]{
		ofData("names", api.ErrForm, func(a, b, c *api.TableRows) { a.Table = "" }),
		ofData("names", api.ErrForm, func(a, b, c *api.TableRows) { a.Table, b.Table = "b", "a" }),
		ofData("names", api.ErrForm, func(a, b, c *api.TableRows) { c.Table = "d" }),
		ofData("a size", api.ErrLarge, func(a, b, c *api.TableRows) { a.Rows = append(a.Rows, make([][]api.Value, 4997)...) }),
		ofData("a0", api.ErrForm, func(a, b, c *api.TableRows) { a.Rows[0] = a.Rows[0][:4] }),
		ofData("a0", api.ErrForm, func(a, b, c *api.TableRows) { a.Rows[0] = append(a.Rows[0], null) }),
		ofData("a0", api.ErrForm, func(a, b, c *api.TableRows) { a.Rows[0] = nil }),
		ofData("a1n", api.ErrType, func(a, b, c *api.TableRows) { a.Rows[1][0] = text("1") }),
		ofData("a1n", api.ErrForm, func(a, b, c *api.TableRows) { a.Rows[1][0] = api.Value{S: "1"} }),
		ofData("a1k", api.ErrNull, func(a, b, c *api.TableRows) { a.Rows[1][1] = null }),
		ofData("a1k", api.ErrArg, func(a, b, c *api.TableRows) { a.Rows[1][1].N = api.MaxInt + 1 }),
		ofData("a1s", api.ErrNull, func(a, b, c *api.TableRows) { a.Rows[1][2] = null }),
		ofData("a1s", api.ErrLarge, func(a, b, c *api.TableRows) { a.Rows[1][2] = text(long(101)) }),
		ofData("a3m", api.ErrArg, func(a, b, c *api.TableRows) { a.Rows[3][3] = moment(-1) }),
		// The order of keys is that of Key, behind all values of the table.
		ofData("a2k", api.ErrKey, func(a, b, c *api.TableRows) { a.Rows[2][1] = integer(2) }),
		ofData("a2k", api.ErrOrder, func(a, b, c *api.TableRows) { a.Rows[2][1] = integer(1) }),
		ofData("a2k", api.ErrOrder, func(a, b, c *api.TableRows) { a.Rows[2][2] = text("") }),
		// Unique values, of all rows index by index: those of j, then of l.
		ofData("a2m", api.ErrKey, func(a, b, c *api.TableRows) { a.Rows[1][3], a.Rows[2][3] = moment(7), moment(7) }),
		ofData("a2m", api.ErrKey, func(a, b, c *api.TableRows) { a.Rows[2][3] = moment(1) }),
		ofData("b size", api.ErrLarge, func(a, b, c *api.TableRows) { b.Rows = append(b.Rows, make([][]api.Value, 4997)...) }),
		ofData("b0", api.ErrForm, func(a, b, c *api.TableRows) { b.Rows[0] = b.Rows[0][:2] }),
		ofData("b1s", api.ErrKey, func(a, b, c *api.TableRows) { b.Rows[1][1] = text("x") }),
		ofData("c rows", api.ErrForm, func(a, b, c *api.TableRows) { c.Rows = [][]api.Value{{}} }),
		ofData("c rows", api.ErrNull, func(a, b, c *api.TableRows) { c.Rows = [][]api.Value{{null}} }),
		ofData("c rows", api.ErrKey, func(a, b, c *api.TableRows) { c.Rows = [][]api.Value{{boolean(0)}, {boolean(1)}, {boolean(1)}} }),
		ofData("c rows", api.ErrOrder, func(a, b, c *api.TableRows) { c.Rows = [][]api.Value{{boolean(1)}, {boolean(0)}, {boolean(0)}} }),
		// References, behind all tables.
		ofData("up", api.ErrRef, func(a, b, c *api.TableRows) { a.Rows[1][0] = integer(4) }),
		ofData("up", api.ErrRef, func(a, b, c *api.TableRows) { a.Rows[3][0] = integer(1) }),
		ofData("x", api.ErrRef, func(a, b, c *api.TableRows) { a.Rows[3][4] = integer(9) }),
		ofData("b a", api.ErrRef, func(a, b, c *api.TableRows) { b.Rows[1][2] = integer(1) }),
	}
}

// P2.13
func TestCheckDataFaults(t *testing.T) {
	s := shelf(t)
	tryFaults(t, shelved(), func(d api.Data) api.Errno { return schema.CheckData(s, d) }, dataFaults())
}

// P2.13
func TestCheckData(t *testing.T) {
	s, d := shelf(t), shelved()
	if err := schema.CheckData(s, api.Data{}); err != api.ErrForm {
		t.Error(err)
	}
	if err := schema.CheckData(s, api.Data{Tables: append(shelved().Tables, api.TableRows{Table: "d"})}); err != api.ErrForm {
		t.Error(err)
	}
	if err := schema.CheckData(api.Schema{}, api.Data{}); err != api.OK {
		t.Error(err)
	}
	wrong := clone(s)
	wrong.Tables[0].Columns[0].Kind = 9
	if err := schema.CheckData(wrong, api.Data{}); err != api.ErrKind {
		t.Error(err)
	}
	// Texts and numbers are different values, and so are lists with the same bytes at other places.
	x := readSchema(t, "table a", "column k int", "column p text", "column q text", "key k", "unique u p q")
	d = api.Data{Tables: []api.TableRows{{Table: "a", Rows: [][]api.Value{{integer(1), text("ab"), text("c")}, {integer(2), text("a"), text("bc")}, {integer(10), text(""), text("abc")}}}}}
	if err := schema.CheckData(x, d); err != api.OK {
		t.Error(err)
	}
}

// P2.13: the greatest number of rows.
func TestCheckDataLarge(t *testing.T) {
	s := readSchema(t, "table a", "column k int", "column r int null", "key k", "foreign f a r", "unique u r")
	d := api.Data{Tables: []api.TableRows{{Table: "a"}}}
	for i := range api.MaxRows {
		d.Tables[0].Rows = append(d.Tables[0].Rows, []api.Value{integer(i), integer(api.MaxRows - 1 - i)})
	}
	if err := schema.CheckData(s, d); err != api.OK {
		t.Error(err)
	}
	d.Tables[0].Rows = append(d.Tables[0].Rows, []api.Value{integer(api.MaxRows), null})
	if err := schema.CheckData(s, d); err != api.ErrLarge {
		t.Error(err)
	}
}
