package sql

import (
	"slices"

	"dumbwaiter/api"
	"dumbwaiter/operate"
	"dumbwaiter/same"
	"dumbwaiter/value"
)

// code gives the value of an expression for a frame.
type code func(f *frame) api.Value

// frame is what an expression sees when it is evaluated.
type frame struct {
	rows  [][]api.Value // one of each source of its select
	found []api.Value   // for the group, or for windows
	outer *frame        // of the select around
}

// up returns the frame of the select some levels further out.
func (f *frame) up(levels int) *frame {
	for range levels {
		f = f.outer
	}
	return f
}

// values returns the values of some code for a frame.
func (f *frame) values(l []code) []api.Value {
	return mapped(l, func(c code) api.Value { return c(f) })
}

// all reports whether some code is true for a frame.
func (f *frame) all(l []code) bool {
	return !slices.ContainsFunc(l, func(c code) bool { return !operate.IsTrue(c(f)) })
}

// layer is what code can name: what a frame has, and those around it.
type layer struct {
	sources []named
	outer   *layer
	outside []outside // what was named further out: what is found depends on it alone

	// What follows is only used for expressions of groups, and of windows.
	rows       *layer     // for the rows of a group
	group      []api.Expr // whose values a group has
	aggregates []aggregate
	windows    []window
}

// outside is something further out, by where it is, and the code of it for a frame of the select around.
type outside struct {
	where spotOutside
	code  code
}

// spotOutside is where something is, seen from a select around: how many levels further out, and a column of a source, or, if source is -1, what was found there.
type spotOutside struct{ levels, source, place int }

// code returns the code of what is at a spot.
func (x spotOutside) code() code {
	if x.source < 0 {
		return found(x.levels, x.place)
	}
	return func(f *frame) api.Value { return f.up(x.levels).rows[x.source][x.place] }
}

// mark notes that something at a spot was named.
func (l *layer) mark(x spotOutside) {
	for x.levels > 0 {
		x.levels--
		l.note(outside{x, x.code()})
		l = l.outer
	}
}

// note notes what is further out, each once.
func (l *layer) note(more ...outside) {
	for _, x := range more {
		if !slices.ContainsFunc(l.outside, func(y outside) bool { return y.where == x.where }) {
			l.outside = append(l.outside, x)
		}
	}
}

// engine makes code of the expressions and selects of a statement that Check accepts.
type engine struct {
	tables map[string]*api.Table
	rows   func(table string) [][]api.Value
	params []api.Value
}

// codes returns the code of expressions.
func (g *engine) codes(l []api.Expr, y *layer) []code {
	return mapped(l, func(e api.Expr) code { return g.code(e, y) })
}

// code returns the code of an expression.
func (g *engine) code(e api.Expr, l *layer) code {
	if levels, place := l.groupPlace(e); place >= 0 {
		at := spotOutside{levels, -1, place}
		l.mark(at)
		return at.code()
	}
	switch {
	case e.Kind == api.XValue || e.Kind == api.XParam:
		return constant(g.known(e))
	case e.Kind == api.XColumn:
		return l.column(e)
	case e.Kind == api.XExists:
		return g.exists(e, l)
	case e.Kind == api.XScalar:
		return g.scalar(e, l)
	case e.Kind == api.XIn && len(e.Sub) > 0:
		return g.isFound(e, l)
	case e.Kind == api.XIn:
		return g.isAmong(e, l)
	case e.Kind == api.XAgg:
		return g.aggregate(e, l)
	case e.Kind == api.XWindow:
		return g.window(e, l)
	}
	args := g.codes(e.Args, l)
	if e.Kind == api.XCase {
		return operate.Choice(args)
	}
	return operate.Operation(e, args)
}

// constant returns the code of a value.
func constant(v api.Value) code { return func(*frame) api.Value { return v } }

// found returns the code of what was found for the group, or the windows, some levels further out.
func found(levels, i int) code {
	return func(f *frame) api.Value { return f.up(levels).found[i] }
}

// groupPlace returns how many levels further out a select is grouped by an expression, and the place of the expression in Group there, -1 if there is none.
func (l *layer) groupPlace(e api.Expr) (levels, place int) {
	for x := l; x != nil; x = x.outer {
		if i := slices.IndexFunc(x.group, func(y api.Expr) bool { return same.Expr(e, y) }); i >= 0 {
			return levels, i
		}
		levels++
	}
	return 0, -1
}

// conjuncts returns the conjuncts of an expression. One by which a select around is grouped is not taken apart: its parts have no value of their own.
func (l *layer) conjuncts(e api.Expr) []api.Expr {
	if _, place := l.groupPlace(e); place >= 0 || !isAnd(e) {
		return []api.Expr{e}
	}
	return append(l.conjuncts(e.Args[0]), l.conjuncts(e.Args[1])...)
}

// column returns the code of an XColumn.
func (l *layer) column(e api.Expr) code {
	levels, x := 0, l
	source := sourcePlace(x.sources, e.Source)
	for source < 0 {
		levels, x = levels+1, x.outer
		source = sourcePlace(x.sources, e.Source)
	}
	at := spotOutside{levels, source, columnPlace(x.sources[source].columns, e.Name)}
	l.mark(at)
	return at.code()
}

// mostKept is how many values are kept at once.
const mostKept = 20000

// kept returns what executes a block for a frame but once for all frames in which the same is further out.
func kept[T any](b *block, execute func(f *frame) T) func(f *frame) T {
	around := mapped(b.outside, func(x outside) code { return x.code })
	known := map[string]T{}
	return func(f *frame) T {
		key := string(value.Key(f.values(around)))
		v, ok := known[key]
		if !ok {
			v = execute(f)
			if len(known) == mostKept {
				known = map[string]T{}
			}
			known[key] = v
		}
		return v
	}
}

// exists returns the code of an XExists.
func (g *engine) exists(e api.Expr, l *layer) code {
	b := g.block(e.Sub[0], l, nil)
	return kept(b, func(f *frame) api.Value { return value.Bool(b.hasRow(f)) })
}

// scalar returns the code of an XScalar.
func (g *engine) scalar(e api.Expr, l *layer) code {
	b := g.block(e.Sub[0], l, nil)
	return kept(b, func(f *frame) api.Value {
		if rows := b.answer(f); len(rows) == 1 {
			return rows[0][0]
		}
		return api.Value{}
	})
}

// isFound returns the code of an XIn with Sub.
func (g *engine) isFound(e api.Expr, l *layer) code {
	arg := g.code(e.Args[0], l)
	b := g.block(e.Sub[0], l, nil)
	others := kept(b, func(f *frame) *set {
		return setOf(mapped(b.answer(f), func(row []api.Value) api.Value { return row[0] }))
	})
	return func(f *frame) api.Value { return others(f).in(arg(f)) }
}

// isAmong returns the code of an XIn without Sub.
func (g *engine) isAmong(e api.Expr, l *layer) code {
	others := e.Args[1:]
	if slices.ContainsFunc(others, func(x api.Expr) bool { return x.Kind != api.XValue && x.Kind != api.XParam }) {
		return operate.In(g.codes(e.Args, l))
	}
	arg := g.code(e.Args[0], l)
	s := setOf(mapped(others, g.known))
	return func(f *frame) api.Value { return s.in(arg(f)) }
}

// known returns the value of an XValue or XParam.
func (g *engine) known(e api.Expr) api.Value {
	if e.Kind == api.XParam {
		return g.params[e.N]
	}
	return e.Value
}

// set is what value.In asks of a list of values that are null or of one kind.
type set struct {
	has     map[api.Value]bool
	isEmpty bool
}

func setOf(l []api.Value) *set {
	s := &set{map[api.Value]bool{}, len(l) == 0}
	for _, v := range l {
		s.has[v] = true
	}
	return s
}

// in returns value.In of a value that is null or of the kind of the others.
func (s *set) in(v api.Value) api.Value {
	null := api.Value{}
	switch {
	case s.isEmpty:
		return value.Bool(false)
	case v == null:
		return null
	case s.has[v]:
		return value.Bool(true)
	case s.has[null]:
		return null
	}
	return value.Bool(false)
}
