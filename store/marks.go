package store

import "dumbwaiter/api"

// What a mark is about.
const (
	onTable = iota
	onKey
	onIndex
	onForeign
)

// mark is something on which results depend, and which commits touch. Numbers do for tables, indexes and foreign keys: a commit that changes the structure is in conflict with all others anyway.
type mark struct {
	about  int
	table  int
	part   int    // the index or the foreign key
	values string // the bytes of the values
}

// marks is a set of marks.
type marks map[mark]bool

// meets reports whether two sets have a mark in common.
func (m marks) meets(other marks) bool {
	if len(other) < len(m) {
		m, other = other, m
	}
	for x := range m {
		if other[x] {
			return true
		}
	}
	return false
}

// noteTables adds the marks of all tables of a frame.
func (m marks) noteTables(f *frame) {
	for i := range f.shapes {
		m[mark{about: onTable, table: i}] = true
	}
}

// noteWrite adds the marks of what a write asks.
func (m marks) noteWrite(f *frame, w write) {
	h := &f.shapes[w.table]
	if w.goes {
		m[mark{about: onKey, table: w.table, values: w.gone}] = true
		for _, b := range h.backs {
			m[mark{onForeign, b.table, b.foreign, w.gone}] = true
		}
	}
	if !w.comes {
		return
	}
	m[mark{about: onKey, table: w.table, values: w.rowKey}] = true
	for i := range h.indexes {
		if values, unique := h.uniqueOf(w.row, i); unique {
			m[mark{onIndex, w.table, i, values}] = true
		}
	}
	for i, target := range h.targets {
		if key, refers := h.foreignOf(w.row, i); refers {
			m[mark{about: onKey, table: target, values: key}] = true
		}
	}
}

// touch adds the marks of all that a row of a table has.
func (m marks) touch(f *frame, table int, row []api.Value) {
	h := &f.shapes[table]
	m[mark{about: onTable, table: table}] = true
	m[mark{about: onKey, table: table, values: h.keyOf(row)}] = true
	for i, places := range h.indexes {
		for n := range places {
			m[mark{onIndex, table, i, bytesOf(row, places[:n+1])}] = true
		}
	}
	for i, places := range h.foreigns {
		m[mark{onForeign, table, i, bytesOf(row, places)}] = true
	}
}

// history has what commits have done, as long as a transaction is open that does not see it.
type history struct {
	first int // the number of commits ahead of the first span
	spans []span
}

// span is the time behind one commit and until the next one.
type span struct {
	open int // how many transactions that began then are open
	deed     // of the commit that ended it; the last span has not ended
}

// deed is what a commit has done.
type deed struct {
	altered bool  // it changed the structure
	touched marks // if it has not
}

// newHistory returns the history without commits.
func newHistory() history { return history{spans: make([]span, 1)} }

// commits returns the number of commits.
func (h *history) commits() int { return h.first + len(h.spans) - 1 }

// enter counts a transaction that begins.
func (h *history) enter() { h.spans[len(h.spans)-1].open++ }

// leave counts a transaction that ends and began behind a number of commits, and forgets what no other one needs.
func (h *history) leave(begun int) {
	h.spans[begun-h.first].open--
	for len(h.spans) > 1 && h.spans[0].open == 0 {
		h.spans[0] = span{}
		h.spans = h.spans[1:]
		h.first++
	}
}

// since returns the spans of the commits behind a number of commits.
func (h *history) since(begun int) []span { return h.spans[begun-h.first : len(h.spans)-1] }

// add adds a commit. What it has done is only asked if a transaction is open.
func (h *history) add(done func() deed) {
	if h.spans[0].open == 0 {
		h.first++
		return
	}
	h.spans[len(h.spans)-1].deed = done()
	h.spans = append(h.spans, span{})
}
