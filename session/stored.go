package session

import (
	"slices"

	"dumbwaiter/api"
	"dumbwaiter/delta"
	"dumbwaiter/layout"
	"dumbwaiter/same"
	"dumbwaiter/schema"
	"dumbwaiter/store"
)

// historyName is the name of the table that a store can have beside those of the model: that of its migrations.
const historyName = "history_"

// withoutHistory returns a schema without the table of migrations.
func withoutHistory(s api.Schema) api.Schema {
	return api.Schema{Tables: slices.DeleteFunc(s.Tables, func(t api.Table) bool { return t.Name == historyName })}
}

// isFor reports whether the schema of a store, which it changes, is one for the tables of a model.
func isFor(stored, wanted api.Schema) bool { return same.Schema(withoutHistory(stored), wanted) }

// storeTables are the tables of a store. What is loaded is read by a second transaction, which sees the same as the first one but is never committed: so the first one notes nothing of it.
type storeTables struct {
	*catalog
	db             *store.Store
	schema         api.Schema
	layout         *layout.Layout
	writer, reader *store.Txn
}

// newStoreTables returns the tables of a store with a schema, which they keep.
func newStoreTables(c *catalog, db *store.Store, s api.Schema) *storeTables {
	return &storeTables{catalog: c, db: db, schema: s, layout: layout.Of(c.model, s)}
}

// begin begins a transaction, if the tables are still those of the model.
func (t *storeTables) begin() api.Errno {
	t.writer, t.reader = t.db.Begin(), t.db.Begin()
	if s, err := t.reader.Schema(); err != api.OK || !isFor(s, t.schema) {
		t.rollback()
		return api.ErrForm
	}
	return api.OK
}

func (t *storeTables) rollback() {
	t.writer.Rollback()
	t.reader.Rollback()
}

func (t *storeTables) commit() api.Errno {
	err := t.writer.Commit()
	t.reader.Rollback()
	return err
}

// table returns the place of a table in the schema.
func (t *storeTables) table(name string) int {
	return slices.IndexFunc(t.schema.Tables, func(x api.Table) bool { return x.Name == name })
}

// column returns the place of a column in a table, -1 if there is none.
func (t *storeTables) column(table int, name string) int {
	return slices.IndexFunc(t.schema.Tables[table].Columns, func(x api.Column) bool { return x.Name == name })
}

func (t *storeTables) objects(names []name) []api.Object {
	var l []api.Object
	for _, n := range names {
		if o, there := t.read(t.reader, n); there {
			l = append(l, o)
		}
	}
	return l
}

func (t *storeTables) ask(n name) (api.Object, bool) { return t.read(t.writer, n) }

func (t *storeTables) askPair(p api.PairOf) bool {
	key := []api.Value{number(p.Left), number(p.Right)}
	if t.entities[p.Entity].root.Tenant {
		key = slices.Insert(key, 0, number(p.Tenant))
	}
	_, err := t.writer.Get(pairsTable(p.Entity, p.Relation), key)
	return err == api.OK
}

// pairsTable returns the name of the table of the pairs of a relation.
func pairsTable(entity, relation string) string { return entity + "_" + relation }

func (t *storeTables) world() (api.World, api.Errno) {
	d := t.data()
	w, err := schema.World(t.model, d)
	if err == api.ErrLarge {
		// A store can have more than a world has: only what is written must be a world.
		return t.layout.World(d), api.OK
	}
	return w, err
}

// data returns the rows of the tables of the model.
func (t *storeTables) data() api.Data {
	d, _ := t.reader.Data()
	d.Tables = slices.DeleteFunc(d.Tables, func(x api.TableRows) bool { return x.Table == historyName })
	return d
}

func (t *storeTables) write(w api.World) api.Errno {
	next, err := schema.Rows(t.model, w)
	if err != api.OK {
		return err
	}
	l := delta.Changes(t.schema, t.data(), next)
	if err := t.writer.Batch(l); err != api.OK {
		return err
	}
	return t.reader.Batch(l)
}
