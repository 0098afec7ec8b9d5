package layout

import (
	"cmp"
	"slices"

	"dumbwaiter/api"
	"dumbwaiter/value"
)

// Object returns the object of a family that rows tell, if they tell one. row gives its row in a table, by the place of the table in the schema, if there is one.
func (l *Layout) Object(family string, row func(table int) ([]api.Value, bool)) (api.Object, bool) {
	e := l.entity(family)
	root, there := row(e.tables[0])
	if !there {
		return api.Object{}, false
	}
	if e.kind >= 0 {
		name := root[e.kind].S
		if l.roots[name] != family {
			return api.Object{}, false
		}
		e = l.entity(name)
	}
	rows := [][]api.Value{root}
	for _, table := range e.tables[1:] {
		r, there := row(table)
		if !there {
			return api.Object{}, false
		}
		rows = append(rows, r)
	}
	return e.object(rows)
}

// object returns the object that rows of the tables of its entity tell, if they tell one.
func (e *entity) object(rows [][]api.Value) (api.Object, bool) {
	root := rows[0]
	o := api.Object{Entity: e.name, ID: root[e.id].N}
	if e.tenant >= 0 {
		o.Tenant = root[e.tenant].N
	}
	if e.version >= 0 {
		o.Version = root[e.version].N
	}
	if e.removal >= 0 {
		o.Gone = root[e.removal]
	}
	for _, at := range e.values {
		o.Values = append(o.Values, rows[at.table][at.column])
	}
	for _, at := range e.ones {
		v := rows[at.table][at.column]
		if v.Kind != api.Null && v.N < 1 {
			return api.Object{}, false
		}
		o.Ones = append(o.Ones, v.N)
	}
	return o, true
}

// World returns the objects and pairs that data tell, also if they are more than a world has. Rows that tell none are passed over.
func (l *Layout) World(d api.Data) api.World {
	var w api.World
	for _, x := range l.model.Entities {
		if x.Parent == "" {
			w.Objects = append(w.Objects, l.objects(x.Name, d)...)
		}
		for _, r := range x.Relations {
			if r.Kind == api.RelPairs {
				w.Pairs = append(w.Pairs, l.pairs(x.Name, r.Name, d)...)
			}
		}
	}
	slices.SortFunc(w.Pairs, func(a, b api.PairOf) int {
		return cmp.Or(cmp.Compare(a.Entity, b.Entity), cmp.Compare(a.Relation, b.Relation), cmp.Compare(a.Tenant, b.Tenant), cmp.Compare(a.Left, b.Left), cmp.Compare(a.Right, b.Right))
	})
	return w
}

// objects returns the objects of a family.
func (l *Layout) objects(family string, d api.Data) []api.Object {
	table := l.table(family)
	width := len(l.schema.Tables[table].Key) // keys are the first columns
	keyed := map[int]map[string][]api.Value{}
	find := func(table int, key string) ([]api.Value, bool) {
		rows, known := keyed[table]
		if !known {
			rows = map[string][]api.Value{}
			for _, row := range d.Tables[table].Rows {
				rows[string(value.Key(row[:width]))] = row
			}
			keyed[table] = rows
		}
		row, there := rows[key]
		return row, there
	}
	var objects []api.Object
	for _, root := range d.Tables[table].Rows {
		key := string(value.Key(root[:width]))
		o, there := l.Object(family, func(t int) ([]api.Value, bool) {
			if t == table {
				return root, true
			}
			return find(t, key)
		})
		if there {
			objects = append(objects, o)
		}
	}
	return objects
}

// pairs returns the pairs of a relation, if it has some of its own.
func (l *Layout) pairs(entity, relation string, d api.Data) []api.PairOf {
	table := l.table(entity + "_" + relation)
	if table < 0 {
		return nil
	}
	var pairs []api.PairOf
	for _, row := range d.Tables[table].Rows {
		ends := row[len(row)-2:]
		p := api.PairOf{Entity: entity, Relation: relation, Left: ends[0].N, Right: ends[1].N}
		if len(row) > 2 {
			p.Tenant = row[0].N
		}
		pairs = append(pairs, p)
	}
	return pairs
}
