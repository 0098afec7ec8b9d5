package sql

import (
	"slices"

	"dumbwaiter/api"
	"dumbwaiter/parts"
	"dumbwaiter/value"
)

// supply is a source of a block with its rows.
type supply struct {
	number int // of the source
	left   bool
	sub    *block // if it is a select
	loaded bool   // the rows of the select are there
	rows   [][]api.Value
	nulls  []api.Value // a row of nulls
	on     []code      // conjuncts of On
	// Rows can be looked up by the values of own, of which those that fit have the same ones as ahead, which can be told without the source.
	own, ahead []code
	index      map[string][][]api.Value
}

// addLookup makes it possible to look up rows of a source by a conjunct, instead of asking it for each row, if the conjunct allows it.
func (g *engine) addLookup(b *block, l *layer, s *supply, e api.Expr) bool {
	// A select that is executed but once would rather make an index of its first source than save time by it.
	if s.number == 0 && l.outer == nil || e.Kind != api.XOp || e.Op != api.OpEqual {
		return false
	}
	own, ahead := e.Args[0], e.Args[1]
	if !l.isOnly(own, s.number) {
		own, ahead = ahead, own
	}
	if !l.isOnly(own, s.number) || l.need(ahead) > s.number {
		return false
	}
	s.own = append(s.own, g.code(own, l))
	s.ahead = append(s.ahead, g.code(ahead, l))
	return true
}

// need returns how many sources of a layer must be there for an expression.
func (l *layer) need(e api.Expr) int {
	need := 0
	for _, place := range l.placesIn(e) {
		need = max(need, place+1)
	}
	return need
}

// isOnly reports whether an expression has columns, all of a source of a layer.
func (l *layer) isOnly(e api.Expr, source int) bool {
	places := l.placesIn(e)
	return len(places) > 0 && !slices.ContainsFunc(places, func(place int) bool { return place != source })
}

// placesIn returns the place of the source of each column in an expression, -1 for sources of other selects.
func (l *layer) placesIn(e api.Expr) []int {
	var places []int
	parts.Part{Expr: &e}.Walk(func(p parts.Part) bool {
		if p.Expr != nil && p.Expr.Kind == api.XColumn {
			places = append(places, sourcePlace(l.sources, p.Expr.Source))
		}
		return true
	})
	return places
}

// load sees to it that the rows of a source are there. A select is executed again only if it depends on the frames around.
func (s *supply) load(outer *frame) {
	if s.sub == nil || s.loaded && len(s.sub.outside) == 0 {
		return
	}
	s.rows, s.loaded, s.index = s.sub.answer(outer), true, nil
}

// fitting returns the rows of a source that a frame does not rule out.
func (s *supply) fitting(f *frame) [][]api.Value {
	if len(s.own) == 0 {
		return s.rows
	}
	if s.index == nil {
		s.index = map[string][][]api.Value{}
		for _, row := range s.rows {
			f.rows[s.number] = row
			if key, ok := f.key(s.own); ok {
				s.index[key] = append(s.index[key], row)
			}
		}
	}
	key, ok := f.key(s.ahead)
	if !ok {
		return nil
	}
	return s.index[key]
}

// key returns the bytes of the values of some code, if none is null: a null is equal to nothing.
func (f *frame) key(l []code) (string, bool) {
	values := f.values(l)
	return string(value.Key(values)), !slices.Contains(values, api.Value{})
}

// each visits the rows for which Where is true, each of them by the frame, as long as visit returns true. It reports whether it always did.
func (b *block) each(f *frame, visit func() bool) bool {
	for _, s := range b.supplies {
		s.load(f.outer)
	}
	return b.join(f, 0, visit)
}

// join is each for the rows that begin with those of the first sources that stand in the frame.
func (b *block) join(f *frame, count int, visit func() bool) bool {
	if !f.all(b.filters[count]) {
		return true
	}
	if count == len(b.supplies) {
		return visit()
	}
	s := b.supplies[count]
	alone := true
	for _, row := range s.fitting(f) {
		f.rows[count] = row
		if !f.all(s.on) {
			continue
		}
		alone = false
		if !b.join(f, count+1, visit) {
			return false
		}
	}
	if s.left && alone {
		f.rows[count] = s.nulls
		return b.join(f, count+1, visit)
	}
	return true
}
