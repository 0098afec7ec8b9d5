package schema

import (
	"cmp"
	"slices"
	"strconv"

	"dumbwaiter/api"
)

// Tables returns the schema of a model.
func Tables(m api.Model) (api.Schema, api.Errno) {
	if err := Check(m); err != api.OK {
		return api.Schema{}, err
	}
	return api.Schema{Tables: viewOf(m).tables()}, api.OK
}

// Column returns the table and the column of a slot.
func Column(m api.Model, entity, slot string) (string, string, api.Errno) {
	v, place, err := lookup(m, entity)
	if err != api.OK {
		return "", "", err
	}
	for _, c := range v.headColumns(v.top(place)) {
		if c.Name == slot {
			return v.root(place).Name, slot, api.OK
		}
	}
	for _, p := range v.lines[place] {
		for _, s := range v.owns[p].all() {
			if s.Name == slot {
				return v.table(p), s.column, api.OK
			}
		}
	}
	return "", "", api.ErrName
}

// home returns the entity in whose table an entity has its own columns.
func (v view) home(place int) int {
	if v.root(place).Apart {
		return place
	}
	return v.top(place)
}

// table returns the name of the table in which an entity has its own columns.
func (v view) table(place int) string { return v.entity(v.home(place)).Name }

// tables returns the tables of a model.
func (v view) tables() []api.Table {
	var l []api.Table
	for place, entity := range v.model.Entities {
		if v.home(place) == place {
			l = append(l, v.entityTable(place))
		}
		for _, r := range entity.Relations {
			if v.hasPairs(place, r) {
				l = append(l, v.pairsTable(place, r))
			}
		}
	}
	slices.SortFunc(l, func(a, b api.Table) int { return cmp.Compare(a.Name, b.Name) })
	return l
}

// entityTable returns the table that is named by an entity.
func (v view) entityTable(home int) api.Table {
	entity, tenant := v.entity(home), v.root(home).Tenant
	t := api.Table{Name: entity.Name, Columns: v.headColumns(home), Key: scoped(tenant, "id")}
	if entity.Parent != "" {
		t.Foreigns = append(t.Foreigns, api.Foreign{Name: "up_", Columns: scoped(tenant, "id"), Table: entity.Parent})
	}
	for _, place := range v.family(home) {
		if v.home(place) == home {
			t.Columns = append(t.Columns, v.ownColumns(place, home)...)
			t.Foreigns = append(t.Foreigns, v.foreigns(place)...)
			t.Indexes = append(t.Indexes, v.indexes(place)...)
		}
	}
	slices.SortFunc(t.Foreigns, func(a, b api.Foreign) int { return cmp.Compare(a.Name, b.Name) })
	slices.SortFunc(t.Indexes, func(a, b api.Index) int { return cmp.Compare(a.Name, b.Name) })
	return t
}

// headColumns returns the columns ahead of those of fields.
func (v view) headColumns(home int) []api.Column {
	var l []api.Column
	root := v.root(home)
	add := func(there bool, c api.Column) {
		if there {
			l = append(l, c)
		}
	}
	isRoot := v.top(home) == home
	add(root.Tenant, api.Column{Name: "tenant", Kind: api.Int})
	add(true, api.Column{Name: "id", Kind: api.Int})
	add(isRoot && len(v.family(home)) > 1, api.Column{Name: "type", Kind: api.Text})
	add(isRoot && root.Version, api.Column{Name: "version", Kind: api.Int})
	add(isRoot && root.Soft, api.Column{Name: "gone", Kind: api.Moment, Null: true})
	return l
}

// ownColumns returns the columns of an entity itself in a table.
func (v view) ownColumns(place, home int) []api.Column {
	var l []api.Column
	for _, s := range v.owns[place].all() {
		c := api.Column{Name: s.column, Kind: s.Kind, Null: s.Null, Default: s.initial}
		if s.Kind == 0 {
			c.Kind = api.Int
		}
		if place != home {
			// Rows of other entities have nothing here.
			c.Null, c.Default = true, api.Value{}
		}
		l = append(l, c)
	}
	return l
}

// foreigns returns the foreign keys of the RelOnes of an entity itself.
func (v view) foreigns(place int) []api.Foreign {
	var l []api.Foreign
	for _, s := range v.owns[place].ones {
		l = append(l, v.foreign(s.Name, s.column, v.places[s.To]))
	}
	return l
}

// foreign returns the foreign key of a column with ids of an entity.
func (v view) foreign(name, column string, to int) api.Foreign {
	return api.Foreign{Name: name, Columns: scoped(v.root(to).Tenant, column), Table: v.table(to)}
}

// indexes returns the indexes of an entity itself.
func (v view) indexes(place int) []api.Index {
	columns := map[string]string{}
	for _, s := range v.owns[place].all() {
		columns[s.Name] = s.column
	}
	var l []api.Index
	entity, tenant := v.entity(place), v.root(place).Tenant
	add := func(lists [][]string, mark string, unique bool) {
		for n, list := range lists {
			index := api.Index{Name: entity.Name + mark + strconv.Itoa(n), Columns: scoped(tenant), Unique: unique}
			for _, name := range list {
				index.Columns = append(index.Columns, columns[name])
			}
			l = append(l, index)
		}
	}
	add(entity.Uniques, "_u", true)
	add(entity.Indexes, "_i", false)
	return l
}

// pairsTable returns the table of a RelPairs that has its own pairs.
func (v view) pairsTable(place int, r api.Relation) api.Table {
	tenant := v.root(place).Tenant
	t := api.Table{
		Name:     pairsName(v.entity(place).Name, r.Name),
		Key:      scoped(tenant, "left_id", "right_id"),
		Foreigns: []api.Foreign{v.foreign("left_", "left_id", place), v.foreign("right_", "right_id", v.places[r.To])},
		Indexes:  []api.Index{{Name: "right_", Columns: scoped(tenant, "right_id")}},
	}
	for _, name := range t.Key {
		t.Columns = append(t.Columns, api.Column{Name: name, Kind: api.Int})
	}
	return t
}

// pairsName returns the name of the table of a RelPairs.
func pairsName(entity, relation string) string { return entity + "_" + relation }

// scoped returns names of columns behind that of the tenant, if there is one.
func scoped(tenant bool, names ...string) []string {
	var l []string
	if tenant {
		l = append(l, "tenant")
	}
	return append(l, names...)
}
