package session

import (
	"slices"

	"dumbwaiter/api"
	"dumbwaiter/same"
	"dumbwaiter/schema"
	"dumbwaiter/store"
	"dumbwaiter/value"
)

// historyName is the name of the table that a store can have beside those of the model: that of its migrations.
const historyName = "history_"

// withoutHistory returns a schema without the table of migrations.
func withoutHistory(s api.Schema) api.Schema {
	return api.Schema{Tables: slices.DeleteFunc(s.Tables, func(t api.Table) bool { return t.Name == historyName })}
}

// isFor reports whether the schema of a store, which it changes, is one for the tables of a model.
func isFor(stored, wanted api.Schema) bool { return same.Schema(withoutHistory(stored), wanted) }

// storeTables are the tables of a store. What is loaded is read by a second transaction, which sees the same as the first one but is never committed: so the first one notes nothing of it.
type storeTables struct {
	*catalog
	db             *store.Store
	schema         api.Schema
	layouts        map[string]*layout // of the entities that were read
	writer, reader *store.Txn
}

// newStoreTables returns the tables of a store with a schema, which they keep.
func newStoreTables(c *catalog, db *store.Store, s api.Schema) *storeTables {
	return &storeTables{catalog: c, db: db, schema: s, layouts: map[string]*layout{}}
}

// begin begins a transaction, if the tables are still those of the model.
func (t *storeTables) begin() api.Errno {
	t.writer, t.reader = t.db.Begin(), t.db.Begin()
	if s, err := t.reader.Schema(); err != api.OK || !isFor(s, t.schema) {
		t.rollback()
		return api.ErrForm
	}
	return api.OK
}

func (t *storeTables) rollback() {
	t.writer.Rollback()
	t.reader.Rollback()
}

func (t *storeTables) commit() api.Errno {
	err := t.writer.Commit()
	t.reader.Rollback()
	return err
}

// table returns the place of a table in the schema.
func (t *storeTables) table(name string) int {
	return slices.IndexFunc(t.schema.Tables, func(x api.Table) bool { return x.Name == name })
}

// column returns the place of a column in a table, -1 if there is none.
func (t *storeTables) column(table int, name string) int {
	return slices.IndexFunc(t.schema.Tables[table].Columns, func(x api.Column) bool { return x.Name == name })
}

func (t *storeTables) objects(names []name) []api.Object {
	var l []api.Object
	for _, n := range names {
		if o, there := t.read(t.reader, n); there {
			l = append(l, o)
		}
	}
	return l
}

func (t *storeTables) ask(n name) (api.Object, bool) { return t.read(t.writer, n) }

func (t *storeTables) askPair(p api.PairOf) bool {
	key := []api.Value{number(p.Left), number(p.Right)}
	if t.entities[p.Entity].root.Tenant {
		key = slices.Insert(key, 0, number(p.Tenant))
	}
	_, err := t.writer.Get(pairsTable(p.Entity, p.Relation), key)
	return err == api.OK
}

// pairsTable returns the name of the table of the pairs of a relation.
func pairsTable(entity, relation string) string { return entity + "_" + relation }

func (t *storeTables) world() (api.World, api.Errno) { return schema.World(t.model, t.data()) }

// data returns the rows of the tables of the model.
func (t *storeTables) data() api.Data {
	d, _ := t.reader.Data()
	d.Tables = slices.DeleteFunc(d.Tables, func(x api.TableRows) bool { return x.Table == historyName })
	return d
}

func (t *storeTables) write(w api.World) api.Errno {
	next, err := schema.Rows(t.model, w)
	if err != api.OK {
		return err
	}
	before := t.data()
	var l []api.RowChange
	for i, table := range t.schema.Tables {
		l = append(l, changes(table, before.Tables[i].Rows, next.Tables[i].Rows)...)
	}
	if err := t.writer.Batch(l); err != api.OK {
		return err
	}
	return t.reader.Batch(l)
}

// changes returns the changes that make some rows of a table others. Both are sorted by their keys.
func changes(t api.Table, before, after [][]api.Value) []api.RowChange {
	var places []int
	for _, name := range t.Key {
		places = append(places, slices.IndexFunc(t.Columns, func(c api.Column) bool { return c.Name == name }))
	}
	keyOf := func(row []api.Value) []api.Value {
		var key []api.Value
		for _, place := range places {
			key = append(key, row[place])
		}
		return key
	}
	var l []api.RowChange
	for len(before) > 0 || len(after) > 0 {
		c := 0
		switch {
		case len(before) == 0:
			c = 1
		case len(after) == 0:
			c = -1
		default:
			c = value.CompareLists(keyOf(before[0]), keyOf(after[0]))
		}
		switch {
		case c < 0:
			l = append(l, api.RowChange{Kind: api.RowDelete, Table: t.Name, Key: keyOf(before[0])})
		case c > 0:
			l = append(l, api.RowChange{Kind: api.RowInsert, Table: t.Name, Row: after[0]})
		case !slices.Equal(before[0], after[0]):
			l = append(l, api.RowChange{Kind: api.RowUpdate, Table: t.Name, Key: keyOf(before[0]), Row: after[0]})
		}
		if c <= 0 {
			before = before[1:]
		}
		if c >= 0 {
			after = after[1:]
		}
	}
	return l
}
