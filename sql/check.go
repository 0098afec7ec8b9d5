package sql

import (
	"slices"

	"dumbwaiter/api"
	"dumbwaiter/schema"
	"dumbwaiter/value"
)

// Check checks a statement.
func Check(s api.Schema, st api.Statement) api.Errno {
	_, err := Headings(s, st)
	return err
}

// Headings returns the names and kinds of the items of a select.
func Headings(s api.Schema, st api.Statement) ([]api.Heading, api.Errno) {
	if err := schema.CheckSchema(s); err != api.OK {
		return nil, err
	}
	return headings(s, st)
}

// headings is Headings for a right schema.
func headings(s api.Schema, st api.Statement) ([]api.Heading, api.Errno) {
	switch {
	case isLarge(st):
		return nil, api.ErrLarge
	case st.Kind < api.StSelect || st.Kind > api.StDelete:
		return nil, api.ErrKind
	case !isLean(st):
		return nil, api.ErrForm
	}
	for _, kind := range st.Params {
		if kind < api.Bool || kind > api.Moment {
			return nil, api.ErrKind
		}
	}
	c := checker{tablesOf(s), st.Params}
	if st.Kind == api.StSelect {
		if len(st.Select) != 1 {
			return nil, api.ErrForm
		}
		return c.query(st.Select[0], nil)
	}
	return nil, c.change(st)
}

// isLean reports whether the fields that a statement of a known kind does not use are zero.
func isLean(st api.Statement) bool {
	allowed := func(zero bool, kinds ...int) bool { return zero || slices.Contains(kinds, st.Kind) }
	return allowed(len(st.Select) == 0, api.StSelect, api.StInsert) &&
		allowed(st.Table == "", api.StInsert, api.StUpdate, api.StDelete) &&
		allowed(st.Name == "", api.StUpdate, api.StDelete) &&
		allowed(len(st.Columns) == 0, api.StInsert, api.StUpdate) &&
		allowed(len(st.Rows) == 0, api.StInsert) &&
		allowed(len(st.Sets) == 0, api.StUpdate) &&
		allowed(len(st.Where) == 0, api.StUpdate, api.StDelete)
}

// checker checks what stands in statements.
type checker struct {
	tables map[string]*api.Table
	params []int
}

// scope is what can be named at a place: the columns of sources, and what can be named around them.
type scope struct {
	sources []named
	outer   *scope
}

// source returns the source with a name, nil if there is none.
func (s *scope) source(name string) *named {
	for ; s != nil; s = s.outer {
		if i := sourcePlace(s.sources, name); i >= 0 {
			return &s.sources[i]
		}
	}
	return nil
}

// change checks an insert, update or delete.
func (c checker) change(st api.Statement) api.Errno {
	t := c.tables[st.Table]
	switch {
	case t == nil:
		return api.ErrName
	case st.Kind == api.StInsert:
		return c.insert(st, t)
	case !isTall(st.Name):
		return api.ErrName
	}
	at := spot{scope: &scope{sources: []named{{st.Name, columnsOf(t)}}}}
	if st.Kind == api.StUpdate {
		if err := c.sets(st, t, at); err != api.OK {
			return err
		}
	}
	if len(st.Where) > 1 {
		return api.ErrForm
	}
	return conditions(st.Where, c.kindAt(at))
}

// insert checks an insert into a table.
func (c checker) insert(st api.Statement, t *api.Table) api.Errno {
	if len(st.Columns) == 0 || (len(st.Rows) == 0) == (len(st.Select) == 0) || len(st.Select) > 1 {
		return api.ErrForm
	}
	kinds, err := kindsOfColumns(t, st.Columns)
	if err != api.OK {
		return err
	}
	for _, row := range st.Rows {
		if err := c.fitting(row, kinds, spot{}); err != api.OK {
			return err
		}
	}
	for _, q := range st.Select {
		items, err := c.query(q, nil)
		switch {
		case err != api.OK:
			return err
		case len(items) != len(kinds):
			return api.ErrForm
		case !slices.EqualFunc(items, kinds, func(h api.Heading, kind int) bool { return fits(h.Kind, kind) }):
			return api.ErrType
		}
	}
	return api.OK
}

// sets checks Columns and Sets of an update of a table.
func (c checker) sets(st api.Statement, t *api.Table, at spot) api.Errno {
	if len(st.Columns) == 0 || len(st.Columns) != len(st.Sets) {
		return api.ErrForm
	}
	kinds, err := kindsOfColumns(t, st.Columns)
	if err != api.OK {
		return err
	}
	return c.fitting(st.Sets, kinds, at)
}

// kindsOfColumns checks names of columns of a table, and returns their kinds.
func kindsOfColumns(t *api.Table, names []string) ([]int, api.Errno) {
	columns := columnsOf(t)
	kinds := make([]int, len(names))
	for i, name := range names {
		place := columnPlace(columns, name)
		switch {
		case place < 0:
			return nil, api.ErrName
		case slices.Contains(names[:i], name):
			return nil, api.ErrTwice
		}
		kinds[i] = columns[place].Kind
	}
	return kinds, api.OK
}

// fitting checks expressions at a spot, one for each of some kinds, which it fits.
func (c checker) fitting(l []api.Expr, kinds []int, at spot) api.Errno {
	if len(l) != len(kinds) {
		return api.ErrForm
	}
	for i, e := range l {
		kind, err := c.kindOf(e, at)
		switch {
		case err != api.OK:
			return err
		case !fits(kind, kinds[i]):
			return api.ErrType
		}
	}
	return api.OK
}

// conditions checks expressions whose kinds, which a function tells, fit Bool.
func conditions(l []api.Expr, kindOf func(e api.Expr) (int, api.Errno)) api.Errno {
	for _, e := range l {
		kind, err := kindOf(e)
		switch {
		case err != api.OK:
			return err
		case !fits(kind, api.Bool):
			return api.ErrType
		}
	}
	return api.OK
}

// fits reports whether two kinds fit one another.
func fits(a, b int) bool { return a == b || a == api.Null || b == api.Null }

// checkCall checks a statement, whether it is of the kind that is asked for, data, and the values of parameters.
func checkCall(s api.Schema, d api.Data, st api.Statement, params []api.Value, isAsked bool) api.Errno {
	return first(
		func() api.Errno { return Check(s, st) },
		func() api.Errno {
			if !isAsked {
				return api.ErrKind
			}
			return schema.CheckData(s, d)
		},
		func() api.Errno { return checkParams(st.Params, params) },
	)
}

// checkParams checks the values of parameters of some kinds.
func checkParams(kinds []int, params []api.Value) api.Errno {
	if len(params) != len(kinds) {
		return api.ErrForm
	}
	for i, v := range params {
		if err := value.Check(kinds[i], v); err != api.OK {
			return err
		}
	}
	return api.OK
}
