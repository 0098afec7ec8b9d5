package delta_test

import (
	"math/rand"
	"reflect"
	"slices"
	"testing"

	"dumbwaiter/api"
	"dumbwaiter/delta"
	"dumbwaiter/store"
	"dumbwaiter/value"
)

func integer(n int) api.Value { return api.Value{Kind: api.Int, N: n} }

// two is a schema of two tables. The key of the first one does not begin with its first column.
func two() api.Schema {
	columns := []api.Column{{Name: "a", Kind: api.Int}, {Name: "b", Kind: api.Int}, {Name: "c", Kind: api.Int}}
	return api.Schema{Tables: []api.Table{{Name: "s", Columns: columns, Key: []string{"c", "a"}}, {Name: "t", Columns: columns, Key: []string{"a"}}}}
}

// made returns rows at random, sorted by the key of a table.
func made(r *rand.Rand, places ...int) [][]api.Value {
	keys := map[string][]api.Value{}
	for range r.Intn(8) {
		row := []api.Value{integer(r.Intn(3)), integer(r.Intn(2)), integer(r.Intn(3))}
		var key []api.Value
		for _, place := range places {
			key = append(key, row[place])
		}
		keys[string(value.Key(key))] = row
	}
	var names []string
	for name := range keys {
		names = append(names, name)
	}
	slices.Sort(names)
	var rows [][]api.Value
	for _, name := range names {
		rows = append(rows, keys[name])
	}
	return rows
}

// The changes make data others, and there are none for rows that stay.
func TestChanges(t *testing.T) {
	for seed := range 300 {
		r := rand.New(rand.NewSource(int64(seed)))
		var d [3]api.Data
		for i := 1; i < 3; i++ {
			d[i].Tables = []api.TableRows{{Table: "s", Rows: made(r, 2, 0)}, {Table: "t", Rows: made(r, 0)}}
		}
		d[0].Tables = []api.TableRows{{Table: "s"}, {Table: "t"}}
		db, _ := store.New(two())
		for i := 1; i < 3; i++ {
			x := db.Begin()
			if err := x.Batch(delta.Changes(two(), d[i-1], d[i])); err != api.OK {
				t.Fatal(err)
			}
			x.Commit()
			for k, table := range db.Data().Tables {
				if len(table.Rows)+len(d[i].Tables[k].Rows) > 0 && !reflect.DeepEqual(table.Rows, d[i].Tables[k].Rows) {
					t.Error(table, d[i].Tables[k])
				}
			}
			if l := delta.Changes(two(), d[i], d[i]); len(l) != 0 {
				t.Error(l)
			}
		}
	}
}

// Each changed row is one change.
func TestChange(t *testing.T) {
	row := func(a, b, c int) []api.Value { return []api.Value{integer(a), integer(b), integer(c)} }
	before := api.Data{Tables: []api.TableRows{{Table: "s", Rows: [][]api.Value{row(1, 0, 1), row(2, 0, 1), row(1, 0, 2)}}, {Table: "t"}}}
	after := api.Data{Tables: []api.TableRows{{Table: "s", Rows: [][]api.Value{row(2, 5, 1), row(1, 0, 2)}}, {Table: "t", Rows: [][]api.Value{row(7, 7, 7)}}}}
	want := []api.RowChange{
		{Kind: api.RowDelete, Table: "s", Key: []api.Value{integer(1), integer(1)}},
		{Kind: api.RowUpdate, Table: "s", Key: []api.Value{integer(1), integer(2)}, Row: row(2, 5, 1)},
		{Kind: api.RowInsert, Table: "t", Row: row(7, 7, 7)},
	}
	if l := delta.Changes(two(), before, after); !reflect.DeepEqual(l, want) {
		t.Error(l)
	}
}
