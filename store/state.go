package store

import (
	"dumbwaiter/api"
	"dumbwaiter/clone"
)

// state is the tables at one moment. It is never changed; a changed state shares with it what has stayed.
type state struct {
	frame *frame
	heaps []heap // of the tables
}

// heap is the rows of a table in several orders: by the key; by the values of each index; by the values of each foreign key, as far as none is null. Behind values comes the key, so that rows do not hide one another.
type heap []*node

// Within a heap, the tree of the rows by their keys is the first one, those of the indexes follow, and those of the foreign keys.
func (h *shape) indexTree(index int) int     { return 1 + index }
func (h *shape) foreignTree(foreign int) int { return 1 + len(h.indexes) + foreign }

// trees returns the number of trees of a heap.
func (h *shape) trees() int { return 1 + len(h.indexes) + len(h.foreigns) }

// keys returns the keys of a row in the trees of a heap; an empty one: it is not there.
func (h *shape) keys(row []api.Value) []string {
	key := h.keyOf(row)
	l := append(make([]string, 0, h.trees()), key)
	for _, places := range h.indexes {
		l = append(l, bytesOf(row, places)+key)
	}
	for i := range h.foreigns {
		if values, refers := h.foreignOf(row, i); refers {
			l = append(l, values+key)
		} else {
			l = append(l, "")
		}
	}
	return l
}

// heapOf returns the heap of rows.
func (h *shape) heapOf(rows [][]api.Value) heap {
	lists := make([][]*node, h.trees())
	for _, row := range rows {
		for i, key := range h.keys(row) {
			if key != "" {
				lists[i] = append(lists[i], joined(nil, key, row, nil))
			}
		}
	}
	return mapped(lists, func(l []*node) *node { return planted(sorted(l)) })
}

// add puts a row into a heap that belongs to the caller.
func (h *shape) add(x heap, row []api.Value) {
	for i, key := range h.keys(row) {
		if key != "" {
			x[i] = x[i].with(key, row)
		}
	}
}

// remove takes a row out of a heap that belongs to the caller.
func (h *shape) remove(x heap, row []api.Value) {
	for i, key := range h.keys(row) {
		if key != "" {
			x[i] = x[i].without(key)
		}
	}
}

// rows returns the rows of a table by their keys. The rows are those of the state.
func (s *state) rows(table int) [][]api.Value {
	l := make([][]api.Value, 0, s.heaps[table][0].count())
	s.heaps[table][0].under("", func(_ string, row []api.Value) bool {
		l = append(l, row)
		return true
	})
	return l
}

// data returns copies of all rows.
func (s *state) data() api.Data {
	var d api.Data
	for i, t := range s.frame.schema.Tables {
		d.Tables = append(d.Tables, api.TableRows{Table: t.Name, Rows: clone.Rows(s.rows(i))})
	}
	return d
}

// mapped returns the results of a function for the elements of a list.
func mapped[T, U any](l []T, f func(x T) U) []U {
	c := make([]U, len(l))
	for i, x := range l {
		c[i] = f(x)
	}
	return c
}
