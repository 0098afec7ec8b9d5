package session

import (
	"dumbwaiter/api"
	"dumbwaiter/schema"
	"dumbwaiter/store"
)

// layout says where the values of objects of an entity stand. (Tables by their places in the schema.)
type layout struct {
	tables           []int // that of the root comes first
	values, ones     []seat
	kind             int // the columns of type, version and gone in the table of the root; -1: there is none
	version, removal int
}

// seat is a column of a table, by their places.
type seat struct{ table, column int }

// layout returns the layout of an entity.
func (t *storeTables) layout(e *entity) *layout {
	if l, known := t.layouts[e.name]; known {
		return l
	}
	root := t.table(e.root.Name)
	l := &layout{tables: []int{root}, kind: t.column(root, "type"), version: t.column(root, "version"), removal: t.column(root, "gone")}
	if e.root.Apart {
		for _, name := range e.line[1:] {
			l.tables = append(l.tables, t.table(name))
		}
	}
	seatOf := func(slot string) seat {
		table, column, _ := schema.Column(t.model, e.name, slot)
		place := t.table(table)
		return seat{place, t.column(place, column)}
	}
	for _, v := range e.values {
		l.values = append(l.values, seatOf(v.Name))
	}
	for _, r := range e.ones {
		l.ones = append(l.ones, seatOf(r.Name))
	}
	t.layouts[e.name] = l
	return l
}

// keyOf returns the key of the rows of an object.
func (t *storeTables) keyOf(n name) []api.Value {
	if t.entities[n.family].root.Tenant {
		return []api.Value{number(n.tenant), number(n.id)}
	}
	return []api.Value{number(n.id)}
}

// read returns the object with a name, as a transaction sees it. Rows that tell no object are passed over.
func (t *storeTables) read(txn *store.Txn, n name) (api.Object, bool) {
	if n.id < 1 {
		return api.Object{}, false
	}
	e := t.entities[n.family]
	l := t.layout(e)
	rows := map[int][]api.Value{}
	read := func(table int) bool {
		row, err := txn.Get(t.schema.Tables[table].Name, t.keyOf(n))
		rows[table] = row
		return err == api.OK
	}
	root := l.tables[0]
	if !read(root) {
		return api.Object{}, false
	}
	if l.kind >= 0 {
		if e = t.entities[rows[root][l.kind].S]; e == nil || e.root.Name != n.family {
			return api.Object{}, false
		}
		l = t.layout(e)
	}
	for _, table := range l.tables[1:] {
		if !read(table) {
			return api.Object{}, false
		}
	}
	return t.objectOf(e, n, rows)
}

// objectOf returns the object of an entity that rows of its tables tell, if they tell one.
func (t *storeTables) objectOf(e *entity, n name, rows map[int][]api.Value) (api.Object, bool) {
	l := t.layout(e)
	o := api.Object{Entity: e.name, Tenant: n.tenant, ID: n.id}
	if root := rows[l.tables[0]]; l.version >= 0 {
		o.Version = root[l.version].N
	}
	if root := rows[l.tables[0]]; l.removal >= 0 {
		o.Gone = root[l.removal]
	}
	for _, at := range l.values {
		o.Values = append(o.Values, rows[at.table][at.column])
	}
	for _, at := range l.ones {
		v := rows[at.table][at.column]
		if v.Kind != api.Null && v.N < 1 {
			return api.Object{}, false
		}
		o.Ones = append(o.Ones, v.N)
	}
	return o, true
}
