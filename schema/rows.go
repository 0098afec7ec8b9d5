package schema

import (
	"slices"

	"dumbwaiter/api"
	"dumbwaiter/value"
)

// What of an object a column of its table tells.
const (
	tellsNothing = iota // the object has no such value or reference
	tellsTenant
	tellsID
	tellsType
	tellsVersion
	tellsGone
	tellsValue
	tellsOne
)

// part is what a column tells; number is that of the value or the reference.
type part struct{ what, number int }

// of returns what stands in the column for an object.
func (p part) of(o api.Object) api.Value {
	switch p.what {
	case tellsTenant:
		return number(o.Tenant)
	case tellsID:
		return number(o.ID)
	case tellsType:
		return textOf(o.Entity)
	case tellsVersion:
		return number(o.Version)
	case tellsGone:
		return o.Gone
	case tellsValue:
		return o.Values[p.number]
	case tellsOne:
		return reference(o.Ones[p.number])
	}
	return api.Value{}
}

// put gives an object what stands in the column. (Its Entity is there already.)
func (p part) put(o *api.Object, v api.Value) {
	switch p.what {
	case tellsTenant:
		o.Tenant = v.N
	case tellsID:
		o.ID = v.N
	case tellsVersion:
		o.Version = v.N
	case tellsGone:
		o.Gone = v
	case tellsValue:
		o.Values[p.number] = v
	case tellsOne:
		o.Ones[p.number] = v.N
	}
}

// layout says how objects of an entity stand in a table.
type layout struct {
	table int    // its place in the schema
	parts []part // of its columns
}

// row returns the row of an object.
func (l layout) row(o api.Object) []api.Value {
	row := make([]api.Value, len(l.parts))
	for i, p := range l.parts {
		row[i] = p.of(o)
	}
	return row
}

// read gives an object what its row tells.
func (l layout) read(o *api.Object, row []api.Value) {
	for i, p := range l.parts {
		p.put(o, row[i])
	}
}

// layouts returns, for each entity, how its objects stand in tables: that of the root comes first.
func (v view) layouts(tables []api.Table) [][]layout {
	all := make([][]layout, len(v.lines))
	for place, line := range v.lines {
		parts := v.parts(place)
		for _, p := range line {
			if v.home(p) != p {
				continue
			}
			l := layout{table: tablePlace(tables, v.table(p))}
			for _, c := range tables[l.table].Columns {
				l.parts = append(l.parts, parts[c.Name])
			}
			all[place] = append(all[place], l)
		}
	}
	return all
}

// parts returns what columns tell of objects of an entity, by their names.
func (v view) parts(place int) map[string]part {
	parts := map[string]part{"tenant": {what: tellsTenant}, "id": {what: tellsID}, "type": {what: tellsType}, "version": {what: tellsVersion}, "gone": {what: tellsGone}}
	shape := v.shape(place)
	for i, s := range shape.values {
		parts[s.column] = part{tellsValue, i}
	}
	for i, s := range shape.ones {
		parts[s.column] = part{tellsOne, i}
	}
	return parts
}

// Rows returns the data that tell a world.
func Rows(m api.Model, w api.World) (api.Data, api.Errno) {
	if err := CheckWorld(m, w); err != api.OK {
		return api.Data{}, err
	}
	v := viewOf(m)
	return v.rows(v.tables(), w), api.OK
}

// rows returns the rows of objects and pairs in tables. Those of each family and relation must be sorted.
func (v view) rows(tables []api.Table, w api.World) api.Data {
	d := api.Data{Tables: make([]api.TableRows, len(tables))}
	for i, t := range tables {
		d.Tables[i].Table = t.Name
	}
	add := func(table int, row []api.Value) {
		d.Tables[table].Rows = append(d.Tables[table].Rows, row)
	}
	layouts := v.layouts(tables)
	for _, o := range w.Objects {
		for _, l := range layouts[v.places[o.Entity]] {
			add(l.table, l.row(o))
		}
	}
	for _, p := range w.Pairs {
		row := []api.Value{number(p.Left), number(p.Right)}
		if v.root(v.places[p.Entity]).Tenant {
			row = []api.Value{number(p.Tenant), number(p.Left), number(p.Right)}
		}
		add(tablePlace(tables, pairsName(p.Entity, p.Relation)), row)
	}
	return d
}

// World returns the world that data tell.
func World(m api.Model, d api.Data) (api.World, api.Errno) {
	if err := Check(m); err != api.OK {
		return api.World{}, err
	}
	v := viewOf(m)
	tables := v.tables()
	if err := CheckData(api.Schema{Tables: tables}, d); err != api.OK {
		return api.World{}, err
	}
	f := source{v, tables, d, rowsByKey(tables, d), v.layouts(tables), v.shapes()}
	objects, ok := f.objects()
	if !ok {
		return api.World{}, api.ErrForm
	}
	w := api.World{Objects: objects, Pairs: f.pairs()}
	// What the rows say beside that (values of other entities, rows of no object, references to 0) is lost in the world.
	if !sameData(v.rows(tables, w), d) {
		return api.World{}, api.ErrForm
	}
	if err := CheckWorld(m, w); err != api.OK {
		return api.World{}, err
	}
	return w, api.OK
}

// source is data of the tables of a model, from which a world is read.
type source struct {
	view
	tables    []api.Table
	data      api.Data
	keys      []map[string]int // of each table: the places of its rows
	layoutsOf [][]layout       // of each entity
	shapeOf   []shape          // of each entity
}

// objects returns the objects that rows of roots tell, if each of them has a type of its family, and the rows for which this type asks.
func (f source) objects() ([]api.Object, bool) {
	var objects []api.Object
	for root := range f.lines {
		if f.top(root) != root {
			continue
		}
		for _, row := range f.data.Tables[f.layoutsOf[root][0].table].Rows {
			o, ok := f.object(root, row)
			if !ok {
				return nil, false
			}
			objects = append(objects, o)
		}
	}
	return objects, true
}

// object returns the object that a row of a root tells.
func (f source) object(root int, row []api.Value) (api.Object, bool) {
	table := f.tables[f.layoutsOf[root][0].table]
	place, ok := f.typeOf(root, table, row)
	if !ok {
		return api.Object{}, false
	}
	s := f.shapeOf[place]
	o := api.Object{Entity: f.entity(place).Name, Values: make([]api.Value, len(s.values)), Ones: make([]int, len(s.ones))}
	key := string(value.Key(pick(row, placesOf(table, table.Key))))
	for _, l := range f.layoutsOf[place] {
		i, ok := f.keys[l.table][key]
		if !ok {
			return api.Object{}, false
		}
		l.read(&o, f.data.Tables[l.table].Rows[i])
	}
	return o, true
}

// typeOf returns the entity that a row of a root has as its type, if it is one of the family.
func (f source) typeOf(root int, t api.Table, row []api.Value) (int, bool) {
	column := columnPlace(t.Columns, "type")
	if column < 0 {
		return root, true
	}
	place, ok := f.places[row[column].S]
	return place, ok && f.top(place) == root
}

// pairs returns the pairs that rows tell.
func (f source) pairs() []api.PairOf {
	var l []api.PairOf
	for place, entity := range f.model.Entities {
		for _, r := range entity.Relations {
			if !f.hasPairs(place, r) {
				continue
			}
			table := tablePlace(f.tables, pairsName(entity.Name, r.Name))
			for _, row := range f.data.Tables[table].Rows {
				ends := row[len(row)-2:]
				p := api.PairOf{Entity: entity.Name, Relation: r.Name, Left: ends[0].N, Right: ends[1].N}
				if f.root(place).Tenant {
					p.Tenant = row[0].N
				}
				l = append(l, p)
			}
		}
	}
	// The names of tables can stand in another order than those of their entities and relations.
	slices.SortFunc(l, comparePairs)
	return l
}

// sameData reports whether data of the same tables have the same rows.
func sameData(a, b api.Data) bool {
	return slices.EqualFunc(a.Tables, b.Tables, func(a, b api.TableRows) bool {
		return slices.EqualFunc(a.Rows, b.Rows, slices.Equal[[]api.Value])
	})
}

// Living returns a world without its gone objects.
func Living(m api.Model, w api.World) (api.World, api.Errno) {
	if err := CheckWorld(m, w); err != api.OK {
		return api.World{}, err
	}
	s := sceneOf(m, w)
	var living api.World
	for _, o := range w.Objects {
		if o.Gone.Kind == api.Null {
			living.Objects = append(living.Objects, s.withoutGone(o))
		}
	}
	for _, p := range w.Pairs {
		_, r, _ := s.pairRelation(p)
		if !s.isGone(p.Entity, p.Tenant, p.Left) && !s.isGone(r.To, p.Tenant, p.Right) {
			living.Pairs = append(living.Pairs, p)
		}
	}
	return living, api.OK
}

// isGone reports whether the object of an entity with an id, to which something of a tenant refers, is gone.
func (s scene) isGone(entity string, tenant, id int) bool {
	i, ok := s.objects[s.nameOf(s.places[entity], tenant, id)]
	return ok && s.world.Objects[i].Gone.Kind != api.Null
}

// withoutGone returns an object of its own memory that refers to none that is gone.
func (s scene) withoutGone(o api.Object) api.Object {
	o.Values, o.Ones = append([]api.Value(nil), o.Values...), append([]int(nil), o.Ones...)
	for i, one := range s.shapeOf[s.places[o.Entity]].ones {
		if s.isGone(one.To, o.Tenant, o.Ones[i]) {
			o.Ones[i] = 0
		}
	}
	return o
}
