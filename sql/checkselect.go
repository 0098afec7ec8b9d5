package sql

import (
	"slices"

	"dumbwaiter/api"
	"dumbwaiter/parts"
	"dumbwaiter/same"
)

// query checks a select around which something can be named, and returns its headings.
func (c checker) query(q api.Select, outer *scope) ([]api.Heading, api.Errno) {
	switch {
	case len(q.From) > 1 || len(q.Where) > 1 || len(q.Having) > 1, len(q.Joins) > 0 && len(q.From) == 0, len(q.Items) == 0:
		return nil, api.ErrForm
	case q.Limit < -1 || q.Limit > api.MaxInt || q.Offset < 0 || q.Offset > api.MaxInt:
		return nil, api.ErrArg
	}
	x := &selectCheck{checker: c, q: q, scope: &scope{outer: outer}, grouped: isGrouped(&q)}
	if err := first(x.sources, x.rows, x.having, x.items, x.order, x.distinct); err != api.OK {
		return nil, err
	}
	return x.headings, api.OK
}

// selectCheck is the check of a select.
type selectCheck struct {
	checker
	q        api.Select
	scope    *scope // with the sources that have been checked
	grouped  bool
	headings []api.Heading
}

// sources checks the sources, and the conditions of joins.
func (x *selectCheck) sources() api.Errno {
	for _, y := range x.q.From {
		if err := x.source(y); err != api.OK {
			return err
		}
	}
	for _, y := range x.q.Joins {
		if err := x.source(y.Source); err != api.OK {
			return err
		}
		if err := conditions([]api.Expr{y.On}, x.kindAt(spot{scope: x.scope})); err != api.OK {
			return err
		}
	}
	return api.OK
}

// source checks a source. From then on its columns can be named.
func (x *selectCheck) source(y api.Source) api.Errno {
	switch {
	case !isTall(y.Name):
		return api.ErrName
	case x.scope.source(y.Name) != nil:
		return api.ErrTwice
	case (y.Table == "") == (len(y.Sub) == 0) || len(y.Sub) > 1:
		return api.ErrForm
	}
	columns, err := x.columns(y, x.scope.outer)
	if err != api.OK {
		return err
	}
	x.scope.sources = append(x.scope.sources, named{y.Name, columns})
	return api.OK
}

// columns returns the columns of a source in a select around which something can be named.
func (c checker) columns(y api.Source, outer *scope) ([]api.Heading, api.Errno) {
	if y.Table == "" {
		return c.query(y.Sub[0], outer)
	}
	t := c.tables[y.Table]
	if t == nil {
		return nil, api.ErrName
	}
	return columnsOf(t), api.OK
}

// rows checks what is asked of rows ahead of groups.
func (x *selectCheck) rows() api.Errno {
	at := spot{scope: x.scope}
	if err := conditions(x.q.Where, x.kindAt(at)); err != api.OK {
		return err
	}
	_, err := x.kindsOf(x.q.Group, at)
	return err
}

// result returns the kind of an expression of Items, Having or Order.
func (x *selectCheck) result(e api.Expr, windows bool) (int, api.Errno) {
	if x.grouped && x.isLoose(parts.Part{Expr: &e}, false) {
		return 0, api.ErrState
	}
	return x.kindOf(e, spot{scope: x.scope, aggregates: true, windows: windows && !x.grouped})
}

// isLoose reports whether an own column stands in a part of a grouped select neither within an XAgg of the select nor within an element of Group. nested says whether the part stands within a further select, whose XAggs are not those of this one.
func (x *selectCheck) isLoose(p parts.Part, nested bool) bool {
	if e := p.Expr; e != nil {
		switch {
		case slices.ContainsFunc(x.q.Group, func(y api.Expr) bool { return same.Expr(*e, y) }):
			return false
		case e.Kind == api.XAgg && !nested:
			return false
		case e.Kind == api.XColumn && sourcePlace(x.scope.sources, e.Source) >= 0:
			return true
		}
	}
	loose := false
	p.Inner(func(q parts.Part) { loose = loose || x.isLoose(q, nested || q.Query != nil) })
	return loose
}

// having checks Having.
func (x *selectCheck) having() api.Errno {
	return conditions(x.q.Having, func(e api.Expr) (int, api.Errno) { return x.result(e, false) })
}

// items checks Items.
func (x *selectCheck) items() api.Errno {
	for _, y := range x.q.Items {
		switch {
		case !isTall(y.Name):
			return api.ErrName
		case columnPlace(x.headings, y.Name) >= 0:
			return api.ErrTwice
		}
		kind, err := x.result(y.Expr, true)
		if err != api.OK {
			return err
		}
		x.headings = append(x.headings, api.Heading{Name: y.Name, Kind: kind})
	}
	return api.OK
}

// order checks Order.
func (x *selectCheck) order() api.Errno {
	for _, o := range x.q.Order {
		if _, err := x.result(o.Expr, true); err != api.OK {
			return err
		}
	}
	return api.OK
}

// distinct checks that with Distinct rows are ordered by what they have.
func (x *selectCheck) distinct() api.Errno {
	isItem := func(e api.Expr) bool {
		return slices.ContainsFunc(x.q.Items, func(y api.Item) bool { return same.Expr(e, y.Expr) })
	}
	for _, o := range x.q.Order {
		isNull := o.Expr.Kind == api.XOp && o.Expr.Op == api.OpNull
		if x.q.Distinct && !isItem(o.Expr) && !(isNull && isItem(o.Expr.Args[0])) {
			return api.ErrState
		}
	}
	return api.OK
}
