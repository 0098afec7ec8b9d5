// Package layout says which field a slot of objects is of, and where objects and pairs stand in the rows of tables, and reads them there.
package layout

import (
	"slices"
	"strings"

	"dumbwaiter/api"
	"dumbwaiter/schema"
)

// Field returns the field of a slot of a right model that is a value.
func Field(m api.Model, s api.Slot) api.Field {
	named := func(l []api.Field, name string) api.Field {
		return l[slices.IndexFunc(l, func(f api.Field) bool { return f.Name == name })]
	}
	place := slices.IndexFunc(m.Entities, func(x api.Entity) bool { return x.Name == s.Entity })
	name, part, isPart := strings.Cut(s.Name, ".")
	f := named(m.Entities[place].Fields, name)
	if isPart {
		place = slices.IndexFunc(m.Embeds, func(x api.Embed) bool { return x.Name == f.Of })
		f = named(m.Embeds[place].Fields, part)
	}
	return f
}

// Layout says where the objects and the pairs of a model stand.
type Layout struct {
	model    api.Model
	schema   api.Schema
	roots    map[string]string // of the families of entities
	entities map[string]*entity
}

// entity says where objects of an entity stand. It is made when it is first asked for.
type entity struct {
	name         string
	tables       []int // their places in the schema; that of the root comes first
	tenant, id   int   // columns of the table of the root; -1: there is none
	kind         int
	version      int
	removal      int
	values, ones []seat
}

// seat is a column of one of the tables of an entity.
type seat struct{ table, column int }

// Of returns the layout of a right model and the schema of its tables. It keeps both.
func Of(m api.Model, s api.Schema) *Layout {
	l := &Layout{m, s, map[string]string{}, map[string]*entity{}}
	for _, e := range m.Entities {
		l.roots[e.Name] = e.Name
		if e.Parent != "" {
			l.roots[e.Name] = l.roots[e.Parent]
		}
	}
	return l
}

// table returns the place of a table in the schema, -1 if there is none.
func (l *Layout) table(name string) int {
	return slices.IndexFunc(l.schema.Tables, func(t api.Table) bool { return t.Name == name })
}

// column returns the place of a column in a table, -1 if there is none.
func (l *Layout) column(table int, name string) int {
	return slices.IndexFunc(l.schema.Tables[table].Columns, func(c api.Column) bool { return c.Name == name })
}

// entity returns where objects of an entity stand.
func (l *Layout) entity(name string) *entity {
	if e, known := l.entities[name]; known {
		return e
	}
	root := l.table(l.roots[name])
	e := &entity{name: name, tables: []int{root}, tenant: l.column(root, "tenant"), id: l.column(root, "id"), kind: l.column(root, "type"), version: l.column(root, "version"), removal: l.column(root, "gone")}
	slots, _ := schema.Slots(l.model, name)
	for _, x := range l.line(name)[1:] {
		if t := l.table(x); t >= 0 { // the family is apart
			e.tables = append(e.tables, t)
		}
	}
	for _, s := range slots {
		at := max(slices.Index(e.tables, l.table(s.Entity)), 0)
		if s.Kind == 0 {
			e.ones = append(e.ones, seat{at, l.column(e.tables[at], s.Name+"_id")})
		} else {
			e.values = append(e.values, seat{at, l.column(e.tables[at], strings.ReplaceAll(s.Name, ".", "_"))})
		}
	}
	l.entities[name] = e
	return e
}

// line returns the entities from the root down to one.
func (l *Layout) line(name string) []string {
	place := slices.IndexFunc(l.model.Entities, func(x api.Entity) bool { return x.Name == name })
	if parent := l.model.Entities[place].Parent; parent != "" {
		return append(l.line(parent), name)
	}
	return []string{name}
}
