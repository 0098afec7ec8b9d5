package sql

import (
	"dumbwaiter/api"
	"dumbwaiter/same"
	"dumbwaiter/value"
)

// spot is where an expression stands: what can be named there, and whether an XAgg or an XWindow of the same select can stand there.
type spot struct {
	scope      *scope
	aggregates bool
	windows    bool
}

// kindAt returns a function for the kinds of expressions at a spot.
func (c checker) kindAt(at spot) func(e api.Expr) (int, api.Errno) {
	return func(e api.Expr) (int, api.Errno) { return c.kindOf(e, at) }
}

// kindsOf returns the kinds of expressions.
func (c checker) kindsOf(l []api.Expr, at spot) ([]int, api.Errno) {
	kinds := make([]int, len(l))
	for i, e := range l {
		kind, err := c.kindOf(e, at)
		if err != api.OK {
			return nil, err
		}
		kinds[i] = kind
	}
	return kinds, api.OK
}

// kindOf returns the kind of an expression.
func (c checker) kindOf(e api.Expr, at spot) (int, api.Errno) {
	inner := at
	if e.Kind == api.XAgg || e.Kind == api.XWindow {
		inner = spot{scope: at.scope}
	}
	var items []api.Heading
	kinds, err := c.kindsOf(e.Args, inner)
	if err == api.OK {
		_, err = c.kindsOf(e.Group, inner)
	}
	if err == api.OK {
		_, err = c.kindsOf(mapped(e.Order, func(o api.Order) api.Expr { return o.Expr }), inner)
	}
	for i := 0; err == api.OK && i < len(e.Sub); i++ {
		items, err = c.query(e.Sub[i], at.scope)
	}
	if err != api.OK {
		return 0, err
	}
	switch {
	case e.Kind == api.XIn && len(e.Sub) > 0:
		return kindOfIn(e, kinds, items)
	case e.Kind == api.XExists || e.Kind == api.XScalar:
		return kindOfSub(e, items)
	case e.Kind == api.XAgg || e.Kind == api.XWindow:
		return kindOfCount(e, kinds, at)
	case e.Kind == api.XColumn:
		return value.KindOf(standing(e, kinds), at.scope.cells(e), nil)
	}
	return value.KindOf(standing(e, kinds), nil, c.params)
}

// cells returns the column that an XColumn names, if there is one.
func (s *scope) cells(e api.Expr) []api.Cell {
	x := s.source(e.Source)
	if x == nil {
		return nil
	}
	place := columnPlace(x.columns, e.Name)
	if place < 0 {
		return nil
	}
	return []api.Cell{{Source: e.Source, Name: e.Name, Kind: x.columns[place].Kind}}
}

// standing returns a part with values of some kinds standing for its Args: value.KindOf says then what is wrong with the part itself.
func standing(e api.Expr, kinds []int) api.Expr {
	e.Args = mapped(fewer(e, kinds), func(kind int) api.Expr {
		return api.Expr{Kind: api.XValue, Value: api.Value{Kind: kind}}
	})
	return e
}

// manyArgs is a number of Args that only parts with any number of them have.
const manyArgs = 100

// fewer returns fewer kinds of Args of a part, if there are many: value.KindOf takes no more than MaxParts of them. Of a part that can have any number of Args, pairs that say nothing new are left out (they are those of a condition and a value, for an XCase).
func fewer(e api.Expr, kinds []int) []int {
	if len(kinds) <= manyArgs {
		return kinds
	}
	if e.Kind != api.XCase && e.Kind != api.XIn && !(e.Kind == api.XOp && e.Op == api.OpCoalesce) {
		return kinds[:manyArgs]
	}
	seen := map[[2]int]bool{}
	var l []int
	for len(kinds) > 1 {
		pair := [2]int{kinds[0], kinds[1]}
		if !seen[pair] {
			l = append(l, pair[:]...)
		}
		seen[pair] = true
		kinds = kinds[2:]
	}
	return append(l, kinds...)
}

// kindOfIn returns the kind of an XIn with Sub, whose Args and items have these kinds: it is one among values of the kind of the item.
func kindOfIn(e api.Expr, kinds []int, items []api.Heading) (int, api.Errno) {
	if len(e.Sub) != 1 || len(kinds) != 1 || len(items) != 1 {
		return 0, api.ErrForm
	}
	e.Sub = nil
	return value.KindOf(standing(e, []int{kinds[0], items[0].Kind}), nil, nil)
}

// kindOfSub returns the kind of an XExists or XScalar with these items.
func kindOfSub(e api.Expr, items []api.Heading) (int, api.Errno) {
	if len(e.Sub) != 1 || len(e.Args) > 0 || !isBlank(e) {
		return 0, api.ErrForm
	}
	if e.Kind == api.XExists {
		return api.Bool, api.OK
	}
	if len(items) != 1 {
		return 0, api.ErrForm
	}
	return items[0].Kind, api.OK
}

// kindOfCount returns the kind of an XAgg or XWindow whose Args have these kinds.
func kindOfCount(e api.Expr, kinds []int, at spot) (int, api.Errno) {
	isWindow := e.Kind == api.XWindow
	switch {
	case len(e.Sub) > 0, e.Op < api.AggRows || e.Op > api.WinCount || isWindow != (e.Op >= api.WinRow):
		return 0, api.ErrKind
	case e.Distinct && e.Op != api.AggCount && e.Op != api.AggSum, len(kinds) != argsOfCount(e.Op), !isBlank(e):
		return 0, api.ErrForm
	case isWindow && !at.windows, !isWindow && !at.aggregates:
		return 0, api.ErrState
	}
	switch e.Op {
	case api.AggSum, api.WinSum:
		if !fits(kinds[0], api.Int) {
			return 0, api.ErrType
		}
	case api.AggLeast, api.AggMost:
		return kinds[0], api.OK
	}
	return api.Int, api.OK
}

// argsOfCount returns the number of Args of an XAgg or XWindow.
func argsOfCount(op int) int {
	switch op {
	case api.AggRows, api.WinRow, api.WinRank:
		return 0
	}
	return 1
}

// isBlank reports whether the fields that a part of the kinds of chapter 4 does not use are zero, apart from Sub and Args.
func isBlank(e api.Expr) bool {
	e.Args, e.Sub = nil, nil
	switch e.Kind {
	case api.XAgg:
		e.Op, e.Distinct = 0, false
	case api.XWindow:
		e.Op, e.Group, e.Order = 0, nil, nil
	}
	return same.Expr(e, api.Expr{Kind: e.Kind})
}
