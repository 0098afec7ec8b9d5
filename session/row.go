package session

import (
	"dumbwaiter/api"
	"dumbwaiter/store"
)

// keyOf returns the key of the rows of an object.
func (t *storeTables) keyOf(n name) []api.Value {
	if t.entities[n.family].root.Tenant {
		return []api.Value{number(n.tenant), number(n.id)}
	}
	return []api.Value{number(n.id)}
}

// read returns the object with a name, as a transaction sees it. Rows that tell no object are passed over.
func (t *storeTables) read(txn *store.Txn, n name) (api.Object, bool) {
	if n.id < 1 {
		return api.Object{}, false
	}
	key := t.keyOf(n)
	return t.layout.Object(n.family, func(table int) ([]api.Value, bool) {
		row, err := txn.Get(t.schema.Tables[table].Name, key)
		return row, err == api.OK
	})
}
