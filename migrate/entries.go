package migrate

import (
	"slices"

	"dumbwaiter/api"
	"dumbwaiter/listing"
	"dumbwaiter/value"
)

// kindWords has the words with which the lines of changes begin, by their kinds.
var kindWords = [...]string{
	api.ChCreate:    "create",
	api.ChDrop:      "drop",
	api.ChRename:    "rename",
	api.ChAdd:       "add",
	api.ChRemove:    "remove",
	api.ChMove:      "move",
	api.ChCast:      "cast",
	api.ChLoose:     "loose",
	api.ChTight:     "tight",
	api.ChDefault:   "default",
	api.ChIndex:     "index",
	api.ChUnindex:   "unindex",
	api.ChForeign:   "foreign",
	api.ChUnforeign: "unforeign",
	api.ChOrder:     "order",
}

// wordOf returns the word with which the line of a change begins.
func wordOf(c api.Change) string {
	if c.Kind == api.ChIndex {
		return listing.IndexWord(c.Index.Unique)
	}
	return kindWords[c.Kind]
}

// changeOf returns a change of which only the word is known with which its line begins, and whether there is one.
func changeOf(word string) (api.Change, bool) {
	if word == listing.IndexWord(true) {
		return api.Change{Kind: api.ChIndex, Index: api.Index{Unique: true}}, true
	}
	for kind, x := range kindWords {
		if x == word && x != "" {
			return api.Change{Kind: kind}, true
		}
	}
	return api.Change{}, false
}

// entry is what some words of a text tell. One of its fields is there.
type entry struct {
	name   *string
	names  *[]string // all that follow
	kind   *int
	value  *api.Value
	column *api.Column
}

// entries returns what the line of a change tells behind its first word.
func entries(c *api.Change) []entry {
	table, name := entry{name: &c.Table}, entry{name: &c.Name}
	switch c.Kind {
	case api.ChCreate:
		return []entry{{name: &c.New.Name}}
	case api.ChDrop:
		return []entry{table}
	case api.ChAdd:
		return []entry{table, {column: &c.Column}}
	case api.ChMove:
		return []entry{table, name, {name: &c.Name2}}
	case api.ChCast:
		return []entry{table, name, {kind: &c.Column.Kind}}
	case api.ChTight, api.ChDefault:
		return []entry{table, name, {value: &c.Column.Default}}
	case api.ChIndex:
		return []entry{table, {name: &c.Index.Name}, {names: &c.Index.Columns}}
	case api.ChForeign:
		return []entry{table, {name: &c.Foreign.Name}, {name: &c.Foreign.Table}, {names: &c.Foreign.Columns}}
	case api.ChOrder:
		return []entry{table, {names: &c.Columns}}
	}
	return []entry{table, name}
}

// mentions returns all that the lines of a change tell: for ChCreate also those of the table.
func mentions(c *api.Change) []entry {
	l := entries(c)
	if c.Kind != api.ChCreate {
		return l
	}
	t := &c.New
	for i := range t.Columns {
		l = append(l, entry{column: &t.Columns[i]})
	}
	l = append(l, entry{names: &t.Key})
	for i := range t.Foreigns {
		f := &t.Foreigns[i]
		l = append(l, entry{name: &f.Name}, entry{name: &f.Table}, entry{names: &f.Columns})
	}
	for i := range t.Indexes {
		l = append(l, entry{name: &t.Indexes[i].Name}, entry{names: &t.Indexes[i].Columns})
	}
	return l
}

// words returns the words.
func (e entry) words() listing.Words {
	switch {
	case e.name != nil:
		return listing.Words{*e.name}
	case e.names != nil:
		return *e.names
	case e.kind != nil:
		return listing.Words{listing.Kinds()[*e.kind]}
	case e.value != nil:
		return listing.Words{value.Show(*e.value)}
	}
	return listing.ColumnWords(*e.column)
}

// read reads what words tell, and returns how many of them do so.
func (e entry) read(w listing.Words) (int, bool) {
	switch {
	case e.names != nil:
		*e.names = slices.Clone(w)
		return len(w), true
	case len(w) == 0:
		return 0, false
	case e.name != nil:
		*e.name = w[0]
	case e.kind != nil:
		*e.kind = listing.Kinds().NumberOf(w[0])
	case e.value != nil:
		v, err := value.Read(w[0])
		*e.value = v
		return 1, err == api.OK
	case e.column != nil:
		c, ok := listing.ReadColumn(w)
		*e.column = c
		return len(w), ok
	}
	return 1, true
}
