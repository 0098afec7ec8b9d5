package sql_test

import (
	"slices"
	"sort"

	"dumbwaiter/api"
	"dumbwaiter/value"
)

// naive executes statements as P4.4 to P4.7 say it: all pairs of rows, all expressions anew for each row.
type naive struct {
	schema api.Schema
	data   api.Data
	params []api.Value
}

// naiveRow is what an expression sees: the rows of sources by their names, the group, all rows of the select, and what is around.
type naiveRow struct {
	names   []string
	columns [][]string
	values  [][]api.Value
	outer   *naiveRow
	all     []*naiveRow // rows of the select, for windows
	group   []api.Expr
	keys    []api.Value
	members []*naiveRow // nil: no group
}

// with is a row with one more source.
func (x *naiveRow) with(name string, columns []string, values []api.Value) *naiveRow {
	c := *x
	c.names = append(slices.Clone(x.names), name)
	c.columns = append(slices.Clone(x.columns), columns)
	c.values = append(slices.Clone(x.values), values)
	return &c
}

func (n naive) table(name string) (api.Table, [][]api.Value) {
	for i, t := range n.schema.Tables {
		if t.Name == name {
			return t, n.data.Tables[i].Rows
		}
	}
	panic(name)
}

func columnNames(t api.Table) []string {
	var l []string
	for _, c := range t.Columns {
		l = append(l, c.Name)
	}
	return l
}

func (n naive) isTrue(e api.Expr, x *naiveRow) bool { return n.eval(e, x) == boolean(1) }

// eval is the value of an expression.
func (n naive) eval(e api.Expr, x *naiveRow) api.Value {
	for y := x; y != nil; y = y.outer {
		for i, g := range y.group {
			if same(g, e) {
				return y.keys[i]
			}
		}
	}
	switch e.Kind {
	case api.XParam:
		return n.params[e.N]
	case api.XColumn:
		for y := x; y != nil; y = y.outer {
			if i := slices.Index(y.names, e.Source); i >= 0 {
				return y.values[i][slices.Index(y.columns[i], e.Name)]
			}
		}
		panic(e.Name)
	case api.XExists:
		return value.Bool(len(n.query(e.Sub[0], x)) > 0)
	case api.XScalar:
		if l := n.query(e.Sub[0], x); len(l) == 1 {
			return l[0][0]
		}
		return null
	case api.XAgg:
		return n.aggregate(e, x)
	case api.XWindow:
		return n.window(e, x)
	}
	y := api.Expr{Kind: e.Kind, Op: e.Op, N: e.N, Value: e.Value}
	for _, arg := range e.Args {
		y.Args = append(y.Args, lit(n.eval(arg, x)))
	}
	if len(e.Sub) > 0 {
		for _, r := range n.query(e.Sub[0], x) {
			y.Args = append(y.Args, lit(r[0]))
		}
		if len(y.Args) == 1 {
			return boolean(0)
		}
	}
	v, err := value.Eval(y, nil, nil, nil)
	if err != api.OK {
		panic(err)
	}
	return v
}

// count is the value of an XAgg over values.
func count(op int, l []api.Value) api.Value {
	if op == api.AggRows {
		return integer(len(l))
	}
	l = slices.DeleteFunc(slices.Clone(l), func(v api.Value) bool { return v == null })
	slices.SortFunc(l, value.Compare)
	switch {
	case op == api.AggCount:
		return integer(len(l))
	case len(l) == 0:
		return null
	case op == api.AggLeast:
		return l[0]
	case op == api.AggMost:
		return l[len(l)-1]
	}
	sum := 0
	for _, v := range l {
		sum += v.N
	}
	if sum > api.MaxInt || sum < -api.MaxInt {
		return null
	}
	return integer(sum)
}

func (n naive) aggregate(e api.Expr, x *naiveRow) api.Value {
	var l []api.Value
	for _, y := range x.members {
		v := boolean(1)
		if len(e.Args) > 0 {
			v = n.eval(e.Args[0], y)
		}
		if !e.Distinct || !slices.Contains(l, v) {
			l = append(l, v)
		}
	}
	return count(e.Op, l)
}

// ahead compares values of an element of an order.
func ahead(o api.Order, a, b api.Value) int {
	switch {
	case a == b:
		return 0
	case a == null:
		return map[bool]int{false: -1, true: 1}[o.Last]
	case b == null:
		return map[bool]int{false: 1, true: -1}[o.Last]
	case o.Desc:
		return value.Compare(b, a)
	}
	return value.Compare(a, b)
}

func (n naive) compare(order []api.Order, x, y *naiveRow) int {
	for _, o := range order {
		if c := ahead(o, n.eval(o.Expr, x), n.eval(o.Expr, y)); c != 0 {
			return c
		}
	}
	return 0
}

func (n naive) window(e api.Expr, x *naiveRow) api.Value {
	var partition []*naiveRow
	for _, y := range x.all {
		alike := func(g api.Expr) bool { return value.Same(n.eval(g, x), n.eval(g, y)) == boolean(1) }
		if !slices.ContainsFunc(e.Group, func(g api.Expr) bool { return !alike(g) }) {
			partition = append(partition, y)
		}
	}
	before, place := 0, 1
	var upTo []api.Value
	for _, y := range partition {
		c := n.compare(e.Order, y, x)
		if c < 0 {
			before++
		}
		if c <= 0 && len(e.Args) > 0 {
			upTo = append(upTo, n.eval(e.Args[0], y))
		}
		if c == 0 {
			c = value.CompareLists(slices.Concat(y.values...), slices.Concat(x.values...))
		}
		// Of equal rows, which no result tells apart, those that stand ahead come before.
		if c < 0 || c == 0 && slices.Index(x.all, y) < slices.Index(x.all, x) {
			place++
		}
	}
	switch e.Op {
	case api.WinRow:
		return integer(place)
	case api.WinRank:
		return integer(before + 1)
	case api.WinSum:
		return count(api.AggSum, upTo)
	}
	return count(api.AggCount, upTo)
}

// joined are the rows of the sources of a select.
func (n naive) joined(q api.Select, outer *naiveRow) []*naiveRow {
	l := []*naiveRow{{outer: outer}}
	add := func(s api.Source, left bool, on []api.Expr) {
		var columns []string
		var from [][]api.Value
		if s.Table != "" {
			t, r := n.table(s.Table)
			columns, from = columnNames(t), r
		} else {
			for _, x := range s.Sub[0].Items {
				columns = append(columns, x.Name)
			}
			from = n.query(s.Sub[0], outer)
		}
		var next []*naiveRow
		for _, x := range l {
			alone := true
			for _, r := range from {
				y := x.with(s.Name, columns, r)
				if len(on) == 0 || n.isTrue(on[0], y) {
					next = append(next, y)
					alone = false
				}
			}
			if alone && left {
				next = append(next, x.with(s.Name, columns, make([]api.Value, len(columns))))
			}
		}
		l = next
	}
	for _, s := range q.From {
		add(s, false, nil)
	}
	for _, j := range q.Joins {
		add(j.Source, j.Left, exprs(j.On))
	}
	return l
}

// belongs reports whether an XAgg stands in an expression outside of selects.
func belongs(e api.Expr) bool {
	if e.Kind == api.XAgg {
		return true
	}
	return slices.ContainsFunc(e.Args, belongs) || slices.ContainsFunc(e.Group, belongs) || slices.ContainsFunc(e.Order, func(o api.Order) bool { return belongs(o.Expr) })
}

// grouped returns the groups of rows, if the select is grouped.
func (n naive) grouped(q api.Select, l []*naiveRow, outer *naiveRow) []*naiveRow {
	is := len(q.Group) > 0 || len(q.Having) > 0
	for _, x := range q.Items {
		is = is || belongs(x.Expr)
	}
	for _, o := range q.Order {
		is = is || belongs(o.Expr)
	}
	if !is {
		return l
	}
	var groups []*naiveRow
	if len(q.Group) == 0 {
		groups = append(groups, &naiveRow{outer: outer, members: l})
	} else {
		for _, x := range l {
			var keys []api.Value
			for _, e := range q.Group {
				keys = append(keys, n.eval(e, x))
			}
			i := slices.IndexFunc(groups, func(g *naiveRow) bool { return slices.Equal(g.keys, keys) })
			if i < 0 {
				i = len(groups)
				groups = append(groups, &naiveRow{outer: outer, group: q.Group, keys: keys})
			}
			groups[i].members = append(groups[i].members, x)
		}
	}
	return slices.DeleteFunc(groups, func(g *naiveRow) bool { return len(q.Having) > 0 && !n.isTrue(q.Having[0], g) })
}

// query is the rows of a select.
func (n naive) query(q api.Select, outer *naiveRow) [][]api.Value {
	l := slices.DeleteFunc(n.joined(q, outer), func(x *naiveRow) bool { return len(q.Where) > 0 && !n.isTrue(q.Where[0], x) })
	for _, x := range l {
		if len(x.values) == 0 {
			x.values = [][]api.Value{nil}
		}
		x.all = l
	}
	type told struct{ values, keys []api.Value }
	var results []told
	for _, x := range n.grouped(q, l, outer) {
		var r told
		for _, y := range q.Items {
			r.values = append(r.values, n.eval(y.Expr, x))
		}
		for _, o := range q.Order {
			r.keys = append(r.keys, n.eval(o.Expr, x))
		}
		if !q.Distinct || !slices.ContainsFunc(results, func(y told) bool { return slices.Equal(r.values, y.values) }) {
			results = append(results, r)
		}
	}
	sort.Slice(results, func(i, k int) bool {
		for m, o := range q.Order {
			if c := ahead(o, results[i].keys[m], results[k].keys[m]); c != 0 {
				return c < 0
			}
		}
		return value.CompareLists(results[i].values, results[k].values) < 0
	})
	var out [][]api.Value
	for i, r := range results {
		if i >= q.Offset && (q.Limit == -1 || i < q.Offset+q.Limit) {
			out = append(out, r.values)
		}
	}
	return out
}

// changes are those that a statement makes.
func (n naive) changes(st api.Statement) []api.RowChange {
	t, from := n.table(st.Table)
	place := func(name string) int { return slices.Index(columnNames(t), name) }
	var l []api.RowChange
	insert := func(values []api.Value) {
		c := api.RowChange{Kind: api.RowInsert, Table: st.Table}
		for _, x := range t.Columns {
			c.Row = append(c.Row, x.Default)
		}
		for i, name := range st.Columns {
			c.Row[place(name)] = values[i]
		}
		l = append(l, c)
	}
	for _, q := range st.Select {
		for _, r := range n.query(q, nil) {
			insert(r)
		}
	}
	for _, r := range st.Rows {
		var values []api.Value
		for _, e := range r {
			values = append(values, n.eval(e, nil))
		}
		insert(values)
	}
	if st.Kind == api.StInsert {
		return l
	}
	for _, r := range from {
		x := new(naiveRow).with(st.Name, columnNames(t), r)
		if len(st.Where) > 0 && !n.isTrue(st.Where[0], x) {
			continue
		}
		c := api.RowChange{Kind: api.RowDelete, Table: st.Table}
		for _, name := range t.Key {
			c.Key = append(c.Key, r[place(name)])
		}
		if st.Kind == api.StUpdate {
			c.Kind, c.Row = api.RowUpdate, slices.Clone(r)
			for i, name := range st.Columns {
				c.Row[place(name)] = n.eval(st.Sets[i], x)
			}
		}
		l = append(l, c)
	}
	return l
}
