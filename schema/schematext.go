package schema

import (
	"dumbwaiter/api"
)

// SchemaText writes a schema.
func SchemaText(s api.Schema) (string, api.Errno) {
	if err := CheckSchema(s); err != api.OK {
		return "", err
	}
	return schemaText(s)
}

// schemaText returns the text of a schema that consists of the parts that texts have. Its only error is ErrLarge.
func schemaText(s api.Schema) (string, api.Errno) {
	var l listing
	for _, t := range s.Tables {
		l.line("table", t.Name)
		for _, c := range t.Columns {
			l.line(words{"column", c.Name}.typed(c.Kind, c.Null, c.Default)...)
		}
		l.line(append(words{"key"}, t.Key...)...)
		for _, f := range t.Foreigns {
			l.line(append(words{"foreign", f.Name, f.Table}, f.Columns...)...)
		}
		for _, x := range t.Indexes {
			l.line(append(words{indexWord(x.Unique), x.Name}, x.Columns...)...)
		}
	}
	return l.text()
}

// indexWord returns the word of an index.
func indexWord(unique bool) string {
	if unique {
		return "unique"
	}
	return "index"
}

// SchemaRead returns the schema with a text.
func SchemaRead(s string) (api.Schema, api.Errno) {
	return readListing(s, readSchema, schemaText, CheckSchema)
}

// readSchema returns the only schema that can have a text; it need not have it. All of its parts are such that they have texts.
func readSchema(s string) (api.Schema, bool) {
	lines, ok := linesOf(s)
	var x api.Schema
	for _, w := range lines {
		if w[0] == "table" {
			x.Tables = append(x.Tables, api.Table{})
		}
		ok = ok && len(x.Tables) > 0 && readTableLine(&x.Tables[len(x.Tables)-1], w)
	}
	return x, ok
}

// readTableLine adds what a line says to a table.
func readTableLine(t *api.Table, w words) bool {
	if w[0] == "column" {
		return readColumn(t, w)
	}
	if !w.all(1, isTallWord) {
		return false
	}
	switch {
	case w[0] == "table" && len(w) == 2:
		t.Name = w[1]
	case w[0] == "key":
		t.Key = w[1:]
	case w[0] == "foreign" && len(w) > 2:
		t.Foreigns = append(t.Foreigns, api.Foreign{Name: w[1], Table: w[2], Columns: w[3:]})
	case (w[0] == indexWord(true) || w[0] == indexWord(false)) && len(w) > 1:
		t.Indexes = append(t.Indexes, api.Index{Name: w[1], Columns: w[2:], Unique: w[0] == indexWord(true)})
	default:
		return false
	}
	return true
}

// readColumn reads the line of a column.
func readColumn(t *api.Table, w words) bool {
	if len(w) < 3 || !isTallWord(w[1]) {
		return false
	}
	traits, ok := readTraits(w[3:])
	c := api.Column{Name: w[1], Kind: kindWords().numberOf(w[2]), Null: traits.null, Default: traits.initial}
	t.Columns = append(t.Columns, c)
	return ok && isKind(c.Kind)
}
