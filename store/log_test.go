package store_test

import (
	"encoding/binary"
	"hash/fnv"
	"math/rand"
	"slices"
	"strconv"
	"testing"

	"dumbwaiter/api"
	"dumbwaiter/schema"
	"dumbwaiter/store"
)

// record is a record with a number and a body, as P3.5 says it.
func record(number int, body string) []byte {
	b := append(binary.LittleEndian.AppendUint32(nil, uint32(len(body))), body...)
	sum := fnv.New64a()
	sum.Write(binary.LittleEndian.AppendUint32(nil, uint32(number)))
	sum.Write(b)
	return binary.LittleEndian.AppendUint64(b, sum.Sum64())
}

// bodies returns the bodies of the records of a log.
func bodies(t *testing.T, log []byte) []string {
	t.Helper()
	var l []string
	for len(log) > 0 {
		body := string(log[4 : 4+binary.LittleEndian.Uint32(log)])
		r := record(len(l), body)
		if !slices.Equal(r, log[:len(r)]) {
			t.Fatal("record", len(l))
		}
		l, log = append(l, body), log[len(r):]
	}
	return l
}

// P3.4
func TestNew(t *testing.T) {
	x, err := store.New(depot(t))
	must(t, err)
	if s, d := x.Schema(), x.Data(); !same(s, depot(t)) || len(d.Tables) != 3 || schema.CheckData(s, d) != api.OK || len(d.Tables[0].Rows)+len(d.Tables[1].Rows)+len(d.Tables[2].Rows) > 0 || x.Commits() != 0 {
		t.Error(s, d)
	}
	wrong := depot(t)
	wrong.Tables[0].Columns[2].Default = integer(1)
	if x, err := store.New(wrong); x != nil || err != api.ErrType {
		t.Error(err)
	}
	if x, err := store.New(api.Schema{}); err != api.OK || len(x.Schema().Tables) > 0 || !slices.Equal(x.Log(), record(0, "")) {
		t.Error(err)
	}
}

// wide is a schema with long names, so that so many columns make a text that is too long.
func wide(columns int) api.Schema {
	var s api.Schema
	for i := range api.MaxTables {
		x := api.Table{Name: long(30) + strconv.Itoa(100+i), Columns: []api.Column{{Name: "id", Kind: api.Int}}, Key: []string{"id"}}
		for k := range min(columns, api.MaxColumns-1) {
			x.Columns = append(x.Columns, api.Column{Name: long(37) + strconv.Itoa(100+k), Kind: api.Moment, Null: true, Default: moment(k)})
		}
		columns -= len(x.Columns) - 1
		s.Tables = append(s.Tables, x)
	}
	return s
}

// P3.5, P3.10: a schema without a text is too large for New, but not for Alter.
func TestSchemaWithoutText(t *testing.T) {
	count := 0
	for err := api.OK; err == api.OK; count++ {
		_, err = schema.SchemaText(wide(count + 1))
	}
	if x, err := store.New(wide(count)); x != nil || err != api.ErrLarge {
		t.Error(err)
	}
	x, err := store.New(wide(count - 1))
	must(t, err)
	a := x.Begin()
	must(t, a.Alter(api.Change{Kind: api.ChAdd, Table: long(30) + "159", Column: api.Column{Name: "more", Kind: api.Text, Default: text(long(100))}}), a.Commit())
	if _, err := schema.SchemaText(x.Schema()); err != api.ErrLarge {
		t.Error(err)
	}
	if y, err := store.Open(x.Log()); err != api.OK || y.Commits() != 1 || !same(y.Schema(), x.Schema()) {
		t.Error(err)
	}
}

// P3.5: the log grows by one record with each commit, also of one that changes nothing.
func TestLog(t *testing.T) {
	x := stocked(t)
	must(t, x.Begin().Commit(), x.Begin().Rollback())
	a, b := x.Begin(), x.Begin()
	must(t, a.Delete("box", row(integer(3))), a.Alter(api.Change{Kind: api.ChDrop, Table: "item"}), a.Delete("box", row(integer(1))), a.Commit())
	if err := b.Commit(); err != api.ErrConflict {
		t.Error(err)
	}
	l := bodies(t, x.Log())
	if text, _ := schema.SchemaText(depot(t)); len(l) != 4 || l[0] != text || x.Commits() != 3 {
		t.Error(len(l), x.Commits())
	}
	if !slices.Equal(x.Log(), x.Log()) || !slices.Equal(stocked(t).Log(), x.Log()[:len(stocked(t).Log())]) {
		t.Error("log")
	}
}

// history is a store with some commits, and its schema, data and log behind each number of them.
func history(t *testing.T) (x *store.Store, schemas []api.Schema, data []api.Data, logs [][]byte) {
	var err api.Errno
	x, err = store.New(depot(t))
	must(t, err)
	keep := func() {
		schemas, data, logs = append(schemas, x.Schema()), append(data, x.Data()), append(logs, x.Log())
	}
	keep()
	for _, step := range []func(a *store.Txn) api.Errno{
		func(a *store.Txn) api.Errno { return a.Batch(inserts(stock())) },
		func(a *store.Txn) api.Errno { return api.OK },
		func(a *store.Txn) api.Errno {
			must(t, a.Update("item", row(integer(9)), nail(12, 3)), a.Delete("box", row(integer(3))))
			return a.Insert("box", row(integer(3), integer(5), text("e"), null, moment(api.MaxMoment)))
		},
		func(a *store.Txn) api.Errno {
			must(t, a.Delete("item", row(integer(12))))
			for _, e := range append(editsOfColumns()[:1], editsOfTables()[0]) {
				must(t, a.Alter(e.change))
			}
			return a.Insert("bag", row(integer(1), integer(1)))
		},
	} {
		a := x.Begin()
		must(t, step(a), a.Commit())
		keep()
	}
	return x, schemas, data, logs
}

// P3.6: a log that is cut anywhere.
func TestOpenOfCutLogs(t *testing.T) {
	_, schemas, data, logs := history(t)
	whole := logs[len(logs)-1]
	for cut := range len(whole) + 1 {
		x, err := store.Open(whole[:cut])
		if cut < len(logs[0]) {
			if x != nil || err != api.ErrShort {
				t.Error(cut, err)
			}
			continue
		}
		n := 0
		for n+1 < len(logs) && cut >= len(logs[n+1]) {
			n++
		}
		if err != api.OK || x.Commits() != n || !slices.Equal(x.Log(), logs[n]) || !same(x.Schema(), schemas[n]) || !same(x.Data(), data[n]) {
			t.Error(cut, n, err)
		}
	}
}

// P3.6: an opened store goes on like the one that wrote the log.
func TestOpenedStoreGoesOn(t *testing.T) {
	x, _, _, logs := history(t)
	y, err := store.Open(logs[len(logs)-1])
	must(t, err)
	for _, s := range []*store.Store{x, y} {
		a, b := s.Begin(), s.Begin()
		must(t, a.Delete("bag", row(integer(1))), b.Insert("bag", row(integer(2), null)), a.Commit(), b.Commit())
		if err := s.Begin().Insert("bag", row(integer(2), null)); err != api.ErrKey {
			t.Error(err)
		}
	}
	if !same(x.Data(), y.Data()) || !slices.Equal(x.Log(), y.Log()) || y.Commits() != x.Commits() {
		t.Error("stores differ")
	}
}

// P3.6: a bit that is wrong.
func TestOpenOfSpoiltLogs(t *testing.T) {
	_, schemas, data, logs := history(t)
	whole := logs[len(logs)-1]
	r := rand.New(rand.NewSource(1))
	for at := range whole {
		spoilt := slices.Clone(whole)
		spoilt[at] ^= 1 << r.Intn(8)
		x, err := store.Open(spoilt)
		n := 0
		for n < len(logs) && at >= len(logs[n]) {
			n++
		}
		switch {
		case n == 0 && at < 4:
			// The length decides where the sum is looked for.
			if x != nil || err != api.ErrShort && err != api.ErrSum {
				t.Error(at, err)
			}
		case n == 0:
			if x != nil || err != api.ErrSum {
				t.Error(at, err)
			}
		case err != api.OK || x.Commits() != n-1 || !slices.Equal(x.Log(), logs[n-1]) || !same(x.Schema(), schemas[n-1]) || !same(x.Data(), data[n-1]):
			t.Error(at, n, err)
		}
	}
}

// P3.6: errors of the first record, in their order.
func TestErrorsOfOpen(t *testing.T) {
	good, _ := schema.SchemaText(depot(t))
	turned := record(0, "table b\ncolumn k int\nkey k\ntable a\ncolumn k int\nkey k\n")
	spoilt := record(0, "x")
	spoilt[len(spoilt)-1]++
	for i, x := range []struct {
		log  []byte
		want api.Errno
	}{
		{nil, api.ErrShort}, {make([]byte, 3), api.ErrShort}, {make([]byte, 11), api.ErrShort}, {make([]byte, 12), api.ErrSum}, {[]byte{255, 255, 255, 255, 1, 1, 1, 1, 1, 1, 1, 1}, api.ErrShort}, {slices.Repeat([]byte{255}, 100), api.ErrShort}, {[]byte{1, 0, 0, 0, 'x', 0, 0, 0, 0, 0, 0, 0}, api.ErrShort},
		{spoilt[:len(spoilt)-1], api.ErrShort}, {spoilt, api.ErrSum}, {record(1, good), api.ErrSum}, {record(0, "x"), api.ErrForm}, {turned, api.ErrForm}, {record(0, good+"\n"), api.ErrForm}, {record(0, good[:len(good)-1]), api.ErrForm}, {append(record(0, "x"), 1), api.ErrForm},
		{record(0, good), api.OK}, {append(record(0, good), 1), api.OK}, {record(0, ""), api.OK},
	} {
		if s, err := store.Open(x.log); err != x.want || (s == nil) != (err != api.OK) {
			t.Error(i, err)
		}
	}
}

// P3.6: records with right sums that do not follow, and bodies that no commit has written.
func TestOpenOfStrangeRecords(t *testing.T) {
	x, _, _, logs := history(t)
	l := bodies(t, x.Log())
	for n := 1; n < len(logs); n++ {
		for i, next := range [][]byte{
			record(n, ""), record(n, "x"), record(n, "\x00"), record(n, l[0]), record(n, l[3]+"\x00"), record(n, l[3]+l[3]), record(n, l[3][1:]), record(n, l[3][:len(l[3])-1]), record(n, string(make([]byte, 1000))), record(n, l[2]+l[2]),
			record(n+1, l[2]), record(0, l[2]), record(n-1, l[2]),
		} {
			if y, err := store.Open(append(slices.Clone(logs[n-1]), next...)); err != api.OK || y.Commits() != n-1 || !slices.Equal(y.Log(), logs[n-1]) {
				t.Error(n, i, err)
			}
		}
	}
	// What one commit has written, another one cannot have written behind it, or without what it needs.
	for n, again := range map[int]int{2: 1, 3: 1, 4: 3, 1: 3} {
		if y, err := store.Open(append(slices.Clone(logs[n-1]), record(n, l[again])...)); err != api.OK || y.Commits() != n-1 {
			t.Error(n, again, err)
		}
	}
	// Nothing can be read behind a record that is wrong.
	whole := append(append(slices.Clone(logs[1]), record(2, "x")...), record(2, l[2])...)
	if y, err := store.Open(whole); err != api.OK || y.Commits() != 1 {
		t.Error(err)
	}
	// A commit without changes can follow everywhere.
	if y, err := store.Open(append(slices.Clone(logs[1]), record(2, l[2])...)); err != api.OK || y.Commits() != 2 {
		t.Error(err)
	}
}

// FuzzOpen: what is read is the beginning of the log, and reads again.
func FuzzOpen(f *testing.F) {
	good, _ := schema.SchemaText(depot(f))
	x := stocked(f)
	a := x.Begin()
	must(f, a.Alter(editsOfTables()[0].change), a.Insert("bag", row(integer(1), null)), a.Commit())
	f.Add(x.Log(), []byte("x"))
	f.Add(record(0, good), []byte{})
	f.Fuzz(func(t *testing.T, log, body []byte) {
		s, err := store.Open(log)
		if err != api.OK {
			if s != nil || err != api.ErrShort && err != api.ErrSum && err != api.ErrForm {
				t.Error(err)
			}
			return
		}
		if !slices.Equal(s.Log(), log[:len(s.Log())]) || schema.CheckData(s.Schema(), s.Data()) != api.OK {
			t.Error("log", log)
		}
		next := append(s.Log(), record(s.Commits()+1, string(body))...)
		if y, err := store.Open(next); err != api.OK || schema.CheckData(y.Schema(), y.Data()) != api.OK || y.Commits() > s.Commits() && !slices.Equal(y.Log(), next) {
			t.Error("body", body, err)
		}
	})
}
