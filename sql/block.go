package sql

import (
	"slices"

	"dumbwaiter/api"
	"dumbwaiter/value"
)

// block is a select that is ready to be executed.
type block struct {
	query      api.Select
	supplies   []*supply
	filters    [][]code // conjuncts of Where, by the number of the sources that they need
	grouped    bool
	group      []code
	aggregates []aggregate
	windows    []window
	having     []code
	items      []code
	keys       []code    // of the order
	outside    []outside // on which alone depends what it gives
}

// block returns the block of a select within a layer. given has the rows of sources of which only some are read.
func (g *engine) block(q api.Select, outer *layer, given map[string][][]api.Value) *block {
	b := &block{query: q, grouped: isGrouped(&q)}
	rows := &layer{outer: outer}
	g.addSources(b, rows, given)
	g.addFilters(b, rows)
	results := rows
	if b.grouped {
		b.group = g.codes(q.Group, rows)
		results = &layer{outer: outer, rows: rows, group: q.Group}
	}
	b.having = g.codes(q.Having, results)
	b.items = mapped(q.Items, func(x api.Item) code { return g.code(x.Expr, results) })
	b.keys = mapped(q.Order, func(o api.Order) code { return g.code(o.Expr, results) })
	b.aggregates, b.windows = results.aggregates, results.windows
	rows.note(results.outside...)
	b.outside = rows.outside
	return b
}

// addSources adds the sources to a block and a layer.
func (g *engine) addSources(b *block, l *layer, given map[string][][]api.Value) {
	for _, x := range b.query.From {
		g.addSource(b, l, x, given)
	}
	for _, x := range b.query.Joins {
		s := g.addSource(b, l, x.Source, given)
		s.left = x.Left
		for _, e := range l.conjuncts(x.On) {
			if !g.addLookup(b, l, s, e) {
				s.on = append(s.on, g.code(e, l))
			}
		}
	}
}

// addSource adds a source to a block and a layer.
func (g *engine) addSource(b *block, l *layer, x api.Source, given map[string][][]api.Value) *supply {
	s := &supply{number: len(b.supplies)}
	rows, isGiven := given[x.Name]
	var columns []api.Heading
	switch {
	case x.Table == "":
		s.sub = g.block(x.Sub[0], l.outer, nil)
		l.note(s.sub.outside...)
		columns = mapped(x.Sub[0].Items, func(y api.Item) api.Heading { return api.Heading{Name: y.Name} })
	case isGiven:
		s.rows, columns = rows, columnsOf(g.tables[x.Table])
	default:
		s.rows, columns = g.rows(x.Table), columnsOf(g.tables[x.Table])
	}
	s.nulls = make([]api.Value, len(columns))
	b.supplies = append(b.supplies, s)
	l.sources = append(l.sources, named{x.Name, columns})
	return s
}

// addFilters adds the conjuncts of Where to a block, each of them where all sources that it needs are there.
func (g *engine) addFilters(b *block, l *layer) {
	b.filters = make([][]code, len(b.supplies)+1)
	for _, where := range b.query.Where {
		for _, e := range l.conjuncts(where) {
			need := l.need(e)
			if need == 0 || b.supplies[need-1].left || !g.addLookup(b, l, b.supplies[need-1], e) {
				b.filters[need] = append(b.filters[need], g.code(e, l))
			}
		}
	}
}

// answer returns the rows of a select within a frame.
func (b *block) answer(outer *frame) [][]api.Value {
	f := b.frame(outer)
	var l []result
	visit := func() bool {
		if f.all(b.having) {
			l = append(l, result{f.values(b.items), f.values(b.keys)})
		}
		return true
	}
	switch {
	case b.grouped:
		b.groups(f, visit)
	case len(b.windows) > 0:
		b.windowed(f, visit)
	default:
		b.each(f, visit)
	}
	return b.finished(l)
}

// frame returns a frame of the select within another one.
func (b *block) frame(outer *frame) *frame {
	return &frame{rows: make([][]api.Value, len(b.supplies)), outer: outer}
}

// hasRow reports whether a select gives a row within a frame.
func (b *block) hasRow(outer *frame) bool {
	if b.grouped || b.query.Offset > 0 || b.query.Limit == 0 {
		return len(b.answer(outer)) > 0
	}
	return !b.each(b.frame(outer), func() bool { return false })
}

// result is a row of a select with its keys.
type result struct{ values, keys []api.Value }

// finished returns the rows of which results stay, in order.
func (b *block) finished(l []result) [][]api.Value {
	slices.SortFunc(l, func(x, y result) int {
		if c := compareKeys(b.query.Order, x.keys, y.keys); c != 0 {
			return c
		}
		return value.CompareLists(x.values, y.values)
	})
	if b.query.Distinct {
		// Equal rows have equal keys, so that they stand side by side.
		l = slices.CompactFunc(l, func(x, y result) bool { return slices.Equal(x.values, y.values) })
	}
	l = l[min(b.query.Offset, len(l)):]
	if b.query.Limit >= 0 {
		l = l[:min(b.query.Limit, len(l))]
	}
	return mapped(l, func(x result) []api.Value { return x.values })
}

// compareKeys compares rows by their keys of an order.
func compareKeys(order []api.Order, a, b []api.Value) int {
	for i, o := range order {
		if c := compareKey(o, a[i], b[i]); c != 0 {
			return c
		}
	}
	return 0
}

// compareKey compares two keys of an element of an order. Last says where nulls are, whether it is Desc or not.
func compareKey(o api.Order, a, b api.Value) int {
	c := value.Compare(a, b)
	hasNull := a.Kind == api.Null || b.Kind == api.Null
	if hasNull && o.Last || !hasNull && o.Desc {
		return -c
	}
	return c
}
