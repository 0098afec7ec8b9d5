package listing

import "dumbwaiter/api"

// Table writes the lines of a table that stand behind the one with its name.
func (w *Writer) Table(t api.Table) {
	for _, c := range t.Columns {
		w.Line(append(Words{"column"}, ColumnWords(c)...)...)
	}
	w.Line(append(Words{"key"}, t.Key...)...)
	for _, f := range t.Foreigns {
		w.Line(append(Words{"foreign", f.Name, f.Table}, f.Columns...)...)
	}
	for _, x := range t.Indexes {
		w.Line(append(Words{IndexWord(x.Unique), x.Name}, x.Columns...)...)
	}
}

// ColumnWords returns the words that say what a column is.
func ColumnWords(c api.Column) Words { return Words{c.Name}.Typed(c.Kind, c.Null, c.Default) }

// IndexWord returns the word of an index.
func IndexWord(unique bool) string {
	if unique {
		return "unique"
	}
	return "index"
}

// ReadTable adds what a line says to a table.
func ReadTable(t *api.Table, w Words) bool {
	if w[0] == "column" {
		c, ok := ReadColumn(w[1:])
		t.Columns = append(t.Columns, c)
		return ok
	}
	if !w.All(1, IsTallWord) {
		return false
	}
	switch {
	case w[0] == "key":
		t.Key = w[1:]
	case w[0] == "foreign" && len(w) > 2:
		t.Foreigns = append(t.Foreigns, api.Foreign{Name: w[1], Table: w[2], Columns: w[3:]})
	case (w[0] == IndexWord(true) || w[0] == IndexWord(false)) && len(w) > 1:
		t.Indexes = append(t.Indexes, api.Index{Name: w[1], Columns: w[2:], Unique: w[0] == IndexWord(true)})
	default:
		return false
	}
	return true
}

// ReadColumn returns the column that words say.
func ReadColumn(w Words) (api.Column, bool) {
	if len(w) < 2 || !IsTallWord(w[0]) {
		return api.Column{}, false
	}
	traits, ok := ReadTraits(w[2:])
	c := api.Column{Name: w[0], Kind: Kinds().NumberOf(w[1]), Null: traits.Null, Default: traits.Default}
	return c, ok && c.Kind != 0
}
