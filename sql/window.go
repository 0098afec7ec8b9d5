package sql

import (
	"slices"

	"dumbwaiter/api"
	"dumbwaiter/value"
)

// window is an XWindow of a select.
type window struct {
	op    int
	arg   code
	group []code
	keys  []code
	order []api.Order
}

// window returns the code of an XWindow, and adds it to those of its layer.
func (g *engine) window(e api.Expr, l *layer) code {
	keys := mapped(e.Order, func(o api.Order) code { return g.code(o.Expr, l) })
	l.windows = append(l.windows, window{e.Op, g.argOfCount(e, l), g.codes(e.Group, l), keys, e.Order})
	return found(0, len(l.windows)-1)
}

// windowed visits the rows of a select with windows, each of them by the frame.
func (b *block) windowed(f *frame, visit func() bool) {
	var rows [][][]api.Value
	b.each(f, func() bool {
		rows = append(rows, slices.Clone(f.rows))
		return true
	})
	results := mapped(b.windows, func(w window) []api.Value { return w.values(f, rows) })
	for i, row := range rows {
		f.rows = row
		f.found = mapped(results, func(l []api.Value) api.Value { return l[i] })
		visit()
	}
}

// member is a row of a partition.
type member struct {
	number int           // of the row in the select
	row    [][]api.Value // of all sources
	keys   []api.Value
	arg    api.Value
}

// values returns the values of a window for the rows of a select.
func (w window) values(f *frame, rows [][][]api.Value) []api.Value {
	partitions := map[string][]member{}
	for i, row := range rows {
		f.rows = row
		key := string(value.Key(f.values(w.group)))
		partitions[key] = append(partitions[key], member{i, row, f.values(w.keys), w.arg(f)})
	}
	results := make([]api.Value, len(rows))
	for _, l := range partitions {
		w.fill(l, results)
	}
	return results
}

// fill sets the results for the members of a partition.
func (w window) fill(l []member, results []api.Value) {
	slices.SortFunc(l, func(a, b member) int {
		if c := compareKeys(w.order, a.keys, b.keys); c != 0 {
			return c
		}
		return slices.CompareFunc(a.row, b.row, value.CompareLists)
	})
	t := newTally(false)
	start, end := 0, 0 // of the members that agree in all keys
	for i, m := range l {
		if i == end {
			start = end
			for end < len(l) && compareKeys(w.order, m.keys, l[end].keys) == 0 {
				t.add(l[end].arg)
				end++
			}
		}
		results[m.number] = w.value(i, start, t)
	}
}

// value returns the value of a window for the member with a number, where start is that of the first one that agrees with it in all keys, and t has the values up to the last such one.
func (w window) value(number, start int, t *tally) api.Value {
	switch w.op {
	case api.WinRow:
		return api.Value{Kind: api.Int, N: number + 1}
	case api.WinRank:
		return api.Value{Kind: api.Int, N: start + 1}
	case api.WinSum:
		return t.value(api.AggSum)
	}
	return t.value(api.AggCount)
}
