package store_test

import (
	"math/rand"
	"testing"

	"dumbwaiter/api"
	"dumbwaiter/schema"
	"dumbwaiter/store"
)

// P3.3: what each table violates, in its order.
func TestBreaks(t *testing.T) {
	d := stock()
	if l, err := store.Breaks(depot(t), d); err != api.OK || len(l) > 0 {
		t.Error(l, err)
	}
	b, i, s := &d.Tables[boxes], &d.Tables[items], &d.Tables[shelves]
	b.Rows = [][]api.Value{
		row(integer(3), integer(1), text("x"), null, moment(1)),
		row(null, null, null, null, moment(1)),
		row(integer(3), integer(1), text("x"), null, moment(1)),
		row(null, integer(1), text("x"), null, null),
		row(integer(3), integer(2), null, boolean(1), moment(1)),
	}
	i.Rows = [][]api.Value{
		row(integer(2), integer(3), integer(1), text("a"), integer(1), null, null, null),
		row(integer(1), integer(9), integer(9), text("a"), integer(2), null, null, null),
		row(integer(1), integer(9), null, text("a"), null, null, null, null),
	}
	s.Rows = [][]api.Value{
		row(text("a"), null, null, null),
		row(text("a"), integer(1), null, boolean(1)),
		row(text("a"), null, null, boolean(1)),
	}
	want := []api.Break{
		{Kind: api.BadNull, Table: "box", Row: 1, Name: "id"}, {Kind: api.BadNull, Table: "box", Row: 1, Name: "label"}, {Kind: api.BadNull, Table: "box", Row: 3, Name: "id"}, {Kind: api.BadNull, Table: "box", Row: 4, Name: "label"},
		{Kind: api.BadKey, Table: "box", Row: 2}, {Kind: api.BadKey, Table: "box", Row: 3}, {Kind: api.BadKey, Table: "box", Row: 4},
		{Kind: api.BadUnique, Table: "box", Row: 2, Name: "bylabel"}, {Kind: api.BadUnique, Table: "box", Row: 3, Name: "bylabel"}, {Kind: api.BadUnique, Table: "box", Row: 2, Name: "byseen"},
		{Kind: api.BadKey, Table: "item", Row: 2},
		{Kind: api.BadRef, Table: "item", Row: 1, Name: "box"}, {Kind: api.BadRef, Table: "item", Row: 2, Name: "box"}, {Kind: api.BadRef, Table: "item", Row: 1, Name: "shelf"}, {Kind: api.BadRef, Table: "item", Row: 1, Name: "up"},
		{Kind: api.BadNull, Table: "shelf", Row: 0, Name: "place"}, {Kind: api.BadNull, Table: "shelf", Row: 0, Name: "firm"}, {Kind: api.BadNull, Table: "shelf", Row: 2, Name: "place"}, {Kind: api.BadKey, Table: "shelf", Row: 2},
	}
	if l, err := store.Breaks(depot(t), d); err != api.OK || !same(l, want) {
		t.Error(l, err)
	}
}

// ofStock makes a fault of data of the depot.
func ofStock(spot string, want api.Errno, change func(b, i, s *api.TableRows)) fault[api.Data] {
	return fault[api.Data]{spot, func(d *api.Data) { change(&d.Tables[boxes], &d.Tables[items], &d.Tables[shelves]) }, want}
}

// P3.3: errors in their order; those that are told as violations are none.
func TestErrorsOfBreaks(t *testing.T) {
	d := stock()
	d.Tables[boxes].Rows[2][0], d.Tables[boxes].Rows[3][0], d.Tables[boxes].Rows[1][2] = null, integer(1), text("a")
	d.Tables[items].Rows[0][1] = integer(77)
	check := func(d api.Data) api.Errno {
		_, err := store.Breaks(depot(t), d)
		return err
	}
	tryFaults(t, d, check, []fault[api.Data]{
		ofStock("names", api.ErrForm, func(b, i, s *api.TableRows) { b.Table = "" }),
		ofStock("names", api.ErrForm, func(b, i, s *api.TableRows) { b.Table, i.Table = i.Table, b.Table }),
		ofStock("size", api.ErrLarge, func(b, i, s *api.TableRows) { b.Rows = append(b.Rows, make([][]api.Value, 4997)...) }),
		ofStock("b0", api.ErrForm, func(b, i, s *api.TableRows) { b.Rows[0] = b.Rows[0][:4] }),
		ofStock("b0", api.ErrForm, func(b, i, s *api.TableRows) { b.Rows[0] = append(b.Rows[0], null) }),
		ofStock("b11", api.ErrType, func(b, i, s *api.TableRows) { b.Rows[1][1] = text("") }),
		ofStock("b12", api.ErrLarge, func(b, i, s *api.TableRows) { b.Rows[1][2] = text(long(101)) }),
		ofStock("b23", api.ErrArg, func(b, i, s *api.TableRows) { b.Rows[2][3] = boolean(2) }),
		ofStock("i size", api.ErrLarge, func(b, i, s *api.TableRows) { i.Rows = append(i.Rows, make([][]api.Value, 4996)...) }),
		ofStock("i0", api.ErrForm, func(b, i, s *api.TableRows) { i.Rows[0][0] = api.Value{N: 1} }),
		ofStock("s0", api.ErrArg, func(b, i, s *api.TableRows) { s.Rows[0][0] = text("\n") }),
	})
	full := stock()
	for i := range api.MaxRows - 3 {
		full.Tables[shelves].Rows = append(full.Tables[shelves].Rows, row(text("x"), integer(i), null, boolean(1)))
	}
	if l, err := store.Breaks(depot(t), full); err != api.OK || len(l) > 0 {
		t.Error(l, err)
	}
	s := depot(t)
	s.Tables[1].Key = nil
	if l, err := store.Breaks(s, api.Data{}); err != api.ErrForm || len(l) > 0 {
		t.Error(l, err)
	}
	s.Tables[1].Key = []string{"none"}
	if l, err := store.Breaks(s, api.Data{}); err != api.ErrName || len(l) > 0 {
		t.Error(l, err)
	}
	if _, err := store.Breaks(depot(t), api.Data{Tables: make([]api.TableRows, 4)}); err != api.ErrForm {
		t.Error(err)
	}
}

// equalAt reports whether two rows have the same values in columns of their tables, and, if asked for, none of them null.
func equalAt(a api.Table, x []api.Value, an []string, b api.Table, y []api.Value, bn []string, full bool) bool {
	for i := range an {
		v := at(a, x, an[i])
		if v != at(b, y, bn[i]) || full && v == null {
			return false
		}
	}
	return true
}

// at returns the value of a column.
func at(t api.Table, r []api.Value, name string) api.Value {
	for i, c := range t.Columns {
		if c.Name == name {
			return r[i]
		}
	}
	panic(name)
}

// wantedBreaks is what P3.3 says, with each two rows compared.
func wantedBreaks(s api.Schema, d api.Data) []api.Break {
	var l []api.Break
	for n, t := range s.Tables {
		rows := d.Tables[n].Rows
		again := func(kind int, name string, columns []string, full bool) {
			for i, r := range rows {
				for _, q := range rows[:i] {
					if equalAt(t, r, columns, t, q, columns, full) {
						l = append(l, api.Break{Kind: kind, Table: t.Name, Row: i, Name: name})
						break
					}
				}
			}
		}
		for i, r := range rows {
			for k, c := range t.Columns {
				if r[k] == null && !c.Null {
					l = append(l, api.Break{Kind: api.BadNull, Table: t.Name, Row: i, Name: c.Name})
				}
			}
		}
		again(api.BadKey, "", t.Key, false)
		for _, x := range t.Indexes {
			if x.Unique {
				again(api.BadUnique, x.Name, x.Columns, true)
			}
		}
		for _, f := range t.Foreigns {
			for i, r := range rows {
				if lacks(s, d, t, r, f) {
					l = append(l, api.Break{Kind: api.BadRef, Table: t.Name, Row: i, Name: f.Name})
				}
			}
		}
	}
	return l
}

// lacks reports whether a row refers to none by a foreign key.
func lacks(s api.Schema, d api.Data, t api.Table, r []api.Value, f api.Foreign) bool {
	if !equalAt(t, r, f.Columns, t, r, f.Columns, true) {
		return false
	}
	for n, to := range s.Tables {
		for _, q := range d.Tables[n].Rows {
			if to.Name == f.Table && equalAt(t, r, f.Columns, to, q, to.Key, true) {
				return false
			}
		}
	}
	return true
}

// P3.3: data at random, and those of schema.CheckData have none.
func TestBreaksAtRandom(t *testing.T) {
	s := depot(t)
	none := 0
	for seed := range 600 {
		r := rand.New(rand.NewSource(int64(seed)))
		d := api.Data{}
		for _, x := range s.Tables {
			rows := api.TableRows{Table: x.Name}
			for range r.Intn(6) {
				rows.Rows = append(rows.Rows, randomRow(r, x, seed%4 > 0))
			}
			d.Tables = append(d.Tables, rows)
		}
		l, err := store.Breaks(s, d)
		if err != api.OK || !same(l, wantedBreaks(s, d)) {
			t.Fatal(seed, l, err)
		}
		checked := schema.CheckData(s, d)
		if checked == api.OK && len(l) > 0 || len(l) == 0 && checked != api.OK && checked != api.ErrOrder {
			t.Fatal(seed, l, checked)
		}
		if len(l) == 0 {
			none++
		}
	}
	if none == 0 {
		t.Error("all have violations")
	}
}
