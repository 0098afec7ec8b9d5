package store

import (
	"dumbwaiter/api"
	"dumbwaiter/value"
)

// The body of the record of a commit is the key (P1.3) of a list of values: the changes of rows up to the first change of structure, this change, the changes of rows up to the next one, and so on, and the changes of rows behind the last one. Ahead of each list stands the number of its elements.

// writer collects the values of a body.
type writer struct{ l []api.Value }

// bytes returns what was written.
func (w *writer) bytes() []byte { return value.Key(w.l) }

func (w *writer) value(v api.Value) { w.l = append(w.l, v) }

func (w *writer) number(n int) { w.value(api.Value{Kind: api.Int, N: n}) }

func (w *writer) text(s string) { w.value(api.Value{Kind: api.Text, S: s}) }

func (w *writer) flag(b bool) {
	v := api.Value{Kind: api.Bool}
	if b {
		v.N = 1
	}
	w.value(v)
}

// writeList writes a list, each element by a function.
func writeList[T any](w *writer, l []T, f func(x T)) {
	w.number(len(l))
	for _, x := range l {
		f(x)
	}
}

func (w *writer) rowChange(c api.RowChange) {
	w.number(c.Kind)
	w.text(c.Table)
	writeList(w, c.Key, w.value)
	writeList(w, c.Row, w.value)
}

func (w *writer) column(c api.Column) {
	w.text(c.Name)
	w.number(c.Kind)
	w.flag(c.Null)
	w.value(c.Default)
}

func (w *writer) foreign(f api.Foreign) {
	w.text(f.Name)
	writeList(w, f.Columns, w.text)
	w.text(f.Table)
}

func (w *writer) index(x api.Index) {
	w.text(x.Name)
	writeList(w, x.Columns, w.text)
	w.flag(x.Unique)
}

func (w *writer) table(t api.Table) {
	w.text(t.Name)
	writeList(w, t.Columns, w.column)
	writeList(w, t.Key, w.text)
	writeList(w, t.Foreigns, w.foreign)
	writeList(w, t.Indexes, w.index)
}

func (w *writer) change(c api.Change) {
	w.number(c.Kind)
	w.text(c.Table)
	w.text(c.Name)
	w.text(c.Name2)
	w.column(c.Column)
	w.index(c.Index)
	w.foreign(c.Foreign)
	w.table(c.New)
	writeList(w, c.Columns, w.text)
}

// reader takes what a writer has written from a list of values.
type reader struct {
	l   []api.Value
	bad bool // the values were not those of a writer; all that is read is zero from then on
}

// value reads a value.
func (r *reader) value() api.Value {
	if r.bad || len(r.l) == 0 {
		r.bad = true
		return api.Value{}
	}
	v := r.l[0]
	r.l = r.l[1:]
	return v
}

// of reads a value of a kind.
func (r *reader) of(kind int) api.Value {
	v := r.value()
	if v.Kind != kind {
		r.bad = true
		return api.Value{}
	}
	return v
}

func (r *reader) number() int  { return r.of(api.Int).N }
func (r *reader) text() string { return r.of(api.Text).S }
func (r *reader) flag() bool   { return r.of(api.Bool).N == 1 }

// readList reads a list, each element by a function.
func readList[T any](r *reader, f func() T) []T {
	var l []T
	for n := r.number(); n > 0 && !r.bad; n-- {
		l = append(l, f())
	}
	return l
}

func (r *reader) rowChange() api.RowChange {
	return api.RowChange{Kind: r.number(), Table: r.text(), Key: readList(r, r.value), Row: readList(r, r.value)}
}

func (r *reader) column() api.Column {
	return api.Column{Name: r.text(), Kind: r.number(), Null: r.flag(), Default: r.value()}
}

func (r *reader) foreign() api.Foreign {
	return api.Foreign{Name: r.text(), Columns: readList(r, r.text), Table: r.text()}
}

func (r *reader) index() api.Index {
	return api.Index{Name: r.text(), Columns: readList(r, r.text), Unique: r.flag()}
}

func (r *reader) table() api.Table {
	return api.Table{Name: r.text(), Columns: readList(r, r.column), Key: readList(r, r.text), Foreigns: readList(r, r.foreign), Indexes: readList(r, r.index)}
}

func (r *reader) change() api.Change {
	return api.Change{Kind: r.number(), Table: r.text(), Name: r.text(), Name2: r.text(), Column: r.column(), Index: r.index(), Foreign: r.foreign(), New: r.table(), Columns: readList(r, r.text)}
}
