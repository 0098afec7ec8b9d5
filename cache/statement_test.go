package cache_test

import (
	"slices"
	"strconv"
	"testing"

	"dumbwaiter/api"
	"dumbwaiter/sql"
)

// writer makes statements over the tables of a model at random. Names are used again where they can be.
type writer struct {
	*maker
	schema api.Schema
	left   int // expressions that may still become larger
}

// leaf is an expression that can stand at a place, with its kind.
type leaf struct {
	api.Expr
	kind int
}

// place is what can stand at a place.
type place struct {
	leaves  []leaf
	names   []string // of sources that can be seen
	rows    []leaf   // what can stand within an XAgg, if isGroup is set
	isGroup bool
	windows bool
}

func lit(v api.Value) api.Expr { return api.Expr{Kind: api.XValue, Value: v} }

func op(n int, args ...api.Expr) api.Expr { return api.Expr{Kind: api.XOp, Op: n, Args: args} }

// paramKinds are the kinds of the parameters of statements.
func paramKinds() []int { return []int{api.Int, api.Text} }

// expr makes an expression of a kind.
func (w *writer) expr(kind int, at place) api.Expr {
	w.left--
	fitting := slices.DeleteFunc(slices.Clone(at.leaves), func(x leaf) bool { return x.kind != kind })
	n := w.Intn(12)
	switch {
	case w.left <= 0 || n < 5:
		if len(fitting) > 0 && !w.chance(4) {
			return pick(w.maker, fitting...).Expr
		}
		if (kind == api.Int || kind == api.Text) && w.chance(4) {
			return api.Expr{Kind: api.XParam, N: slices.Index(paramKinds(), kind)}
		}
		return lit(w.value(kind))
	case n < 6:
		return api.Expr{Kind: api.XScalar, Sub: []api.Select{w.query(at, []int{kind})}}
	case n < 7 && at.windows && kind == api.Int:
		return w.window(place{leaves: at.leaves, names: at.names})
	case n < 9 && at.isGroup && kind == api.Int:
		return w.aggregate(place{leaves: at.rows, names: at.names})
	}
	return w.operation(kind, at)
}

func (w *writer) window(at place) api.Expr {
	e := api.Expr{Kind: api.XWindow, Op: api.WinRow + w.Intn(4), Order: w.orders(at)}
	if e.Op >= api.WinSum {
		e.Args = []api.Expr{w.expr(api.Int, at)}
	}
	if w.chance(2) {
		e.Group = []api.Expr{w.expr(api.Text, at)}
	}
	return e
}

func (w *writer) aggregate(at place) api.Expr {
	e := api.Expr{Kind: api.XAgg, Op: api.AggRows + w.Intn(5)}
	if e.Op != api.AggRows {
		e.Args = []api.Expr{w.expr(api.Int, at)}
		e.Distinct = w.chance(3) && e.Op <= api.AggSum
	}
	return e
}

// operation makes an operation with a result of a kind.
func (w *writer) operation(kind int, at place) api.Expr {
	x := func(k int) api.Expr { return w.expr(k, at) }
	if w.chance(4) {
		return api.Expr{Kind: api.XCase, Args: []api.Expr{x(api.Bool), x(kind), x(kind)}}
	}
	switch kind {
	case api.Int:
		return op(pick(w.maker, api.OpAdd, api.OpSub, api.OpMod), x(api.Int), x(api.Int))
	case api.Text:
		return op(pick(w.maker, api.OpConcat, api.OpCoalesce), x(api.Text), x(api.Text))
	case api.Moment:
		return op(api.OpAdd, x(api.Moment), x(api.Int))
	}
	k := pick(w.maker, api.Int, api.Int, api.Text, api.Moment)
	switch w.Intn(6) {
	case 0:
		return op(api.OpNull, x(k))
	case 1:
		return op(pick(w.maker, api.OpAnd, api.OpOr), x(api.Bool), x(api.Bool))
	case 2:
		return api.Expr{Kind: api.XIn, Args: []api.Expr{x(k)}, Sub: []api.Select{w.query(at, []int{k})}}
	case 3, 4:
		return api.Expr{Kind: api.XExists, Sub: []api.Select{w.query(at, []int{k})}}
	}
	return op(pick(w.maker, api.OpEqual, api.OpLess, api.OpSame), x(k), x(k))
}

func (w *writer) orders(at place) []api.Order {
	var l []api.Order
	for range w.Intn(3) {
		l = append(l, api.Order{Expr: w.expr(pick(w.maker, api.Int, api.Text), at), Desc: w.chance(2), Last: w.chance(2)})
	}
	return l
}

// name makes a name that no source has that can be seen.
func (w *writer) name(names []string) string {
	for {
		name := pick(w.maker, "a", "b", "tenant", "note", "book", "s"+strconv.Itoa(w.Intn(2+2*len(names))))
		if !slices.Contains(names, name) {
			return name
		}
	}
}

// columns are the columns of a table by a name.
func columns(t api.Table, name string) []leaf {
	var l []leaf
	for _, c := range t.Columns {
		l = append(l, leaf{api.Expr{Kind: api.XColumn, Source: name, Name: c.Name}, c.Kind})
	}
	return l
}

// table makes a table: often one of tenants.
func (w *writer) table() api.Table { return pick(w.maker, w.schema.Tables...) }

// source makes a source, which does not see those beside it, and returns its columns.
func (w *writer) source(outer place, names []string) (api.Source, []leaf) {
	name := w.name(names)
	if w.left <= 0 || !w.chance(4) {
		t := w.table()
		return api.Source{Name: name, Table: t.Name}, columns(t, name)
	}
	kinds := []int{api.Int, pick(w.maker, api.Int, api.Text, api.Bool)}
	q := w.query(outer, kinds)
	var l []leaf
	for i, item := range q.Items {
		l = append(l, leaf{api.Expr{Kind: api.XColumn, Source: name, Name: item.Name}, kinds[i]})
	}
	return api.Source{Name: name, Sub: []api.Select{q}}, l
}

// query makes a select with items of some kinds.
func (w *writer) query(outer place, kinds []int) api.Select {
	outer.rows, outer.isGroup, outer.windows = nil, false, false
	q := api.Select{Limit: -1}
	at := outer
	own := []leaf(nil)
	add := func() (api.Source, []leaf) {
		x, l := w.source(outer, at.names)
		own = append(own, l...)
		at.names, at.leaves = append(slices.Clone(at.names), x.Name), append(slices.Clone(at.leaves), l...)
		return x, l
	}
	if !w.chance(10) {
		x, _ := add()
		q.From = []api.Source{x}
		for w.chance(2) && len(q.Joins) < 3 {
			x, l := add()
			q.Joins = append(q.Joins, api.Join{Left: w.chance(2), Source: x, On: w.on(l, at)})
		}
	}
	if w.chance(2) {
		q.Where = []api.Expr{w.on(own, at)}
	}
	result := at
	result.windows = w.chance(2)
	if w.chance(3) {
		result = place{leaves: outer.leaves, names: at.names, rows: at.leaves, isGroup: true}
		for range w.Intn(3) {
			k := pick(w.maker, api.Int, api.Int, api.Text, api.Bool)
			e := w.expr(k, at)
			q.Group = append(q.Group, e)
			result.leaves = append([]leaf{{e, k}, {e, k}}, result.leaves...)
		}
		if len(q.Group) == 0 || w.chance(2) {
			q.Having = []api.Expr{w.expr(api.Bool, result)}
		}
	}
	for i, k := range kinds {
		q.Items = append(q.Items, api.Item{Name: pick(w.maker, "tenant", "i") + strconv.Itoa(i), Expr: w.expr(k, result)})
	}
	if w.chance(3) {
		q.Items[0].Name = "tenant"
	}
	q.Order = w.orders(result)
	if w.chance(5) {
		q.Distinct = true
		for i := range q.Order {
			q.Order[i].Expr = pick(w.maker, q.Items...).Expr
		}
	}
	if w.chance(5) {
		q.Limit, q.Offset = w.Intn(4), w.Intn(2)
	}
	return q
}

// on makes a condition, often with equal columns.
func (w *writer) on(own []leaf, at place) api.Expr {
	for range 9 {
		if len(own) == 0 || len(at.leaves) == 0 {
			break
		}
		a, b := pick(w.maker, own...), pick(w.maker, at.leaves...)
		if a.kind == b.kind && !same(a.Expr, b.Expr) {
			return op(api.OpEqual, a.Expr, b.Expr)
		}
	}
	return w.expr(api.Bool, at)
}

// statement makes a statement that sql.Check accepts.
func (r *maker) statement(t testing.TB) api.Statement {
	t.Helper()
	for {
		w := &writer{maker: r, schema: tables(t, r.m), left: 5 + r.Intn(30)}
		if st := w.statement(); sql.Check(w.schema, st) == api.OK {
			return st
		}
	}
}

// statement makes a statement that is mostly right.
func (w *writer) statement() api.Statement {
	st := api.Statement{Kind: pick(w.maker, api.StSelect, api.StSelect, api.StInsert, api.StInsert, api.StUpdate, api.StDelete), Params: paramKinds()}
	if st.Kind == api.StSelect {
		st.Select = []api.Select{w.query(place{}, []int{pick(w.maker, api.Int, api.Text, api.Bool, api.Moment), api.Int}[w.Intn(2):])}
		return st
	}
	x := w.table()
	for x.Key[0] != "tenant" && !w.chance(9) {
		x = w.table()
	}
	st.Table = x.Name
	if st.Kind == api.StInsert {
		w.insert(&st, x)
		return st
	}
	st.Name = w.name(nil)
	at := place{leaves: columns(x, st.Name), names: []string{st.Name}}
	for _, c := range x.Columns {
		if st.Kind == api.StUpdate && c.Name != "type" && (c.Name != "tenant" || w.chance(20)) && w.chance(4) {
			st.Columns, st.Sets = append(st.Columns, c.Name), append(st.Sets, w.expr(c.Kind, at))
		}
	}
	if !w.chance(3) {
		st.Where = []api.Expr{w.on(at.leaves, at)}
	}
	return st
}

// insert gives an insert into a table its columns and rows.
func (w *writer) insert(st *api.Statement, x api.Table) {
	var kinds []int
	for _, c := range x.Columns {
		if c.Name == "tenant" && !w.chance(20) || c.Null && w.chance(2) {
			continue
		}
		st.Columns, kinds = append(st.Columns, c.Name), append(kinds, c.Kind)
	}
	if w.chance(2) {
		q := w.query(place{}, kinds)
		w.plain(&q, st.Columns, kinds)
		st.Select = []api.Select{q}
		return
	}
	for range 1 + w.Intn(2) {
		var l []api.Expr
		for i, k := range kinds {
			l = append(l, w.expr(k, place{}))
			if w.chance(2) {
				l[i] = w.likely(st.Columns[i], k)
			}
		}
		st.Rows = append(st.Rows, l)
	}
}

// plain makes items likely, so that rows can be inserted.
func (w *writer) plain(q *api.Select, columns []string, kinds []int) {
	for i := range q.Items {
		if q.Distinct || w.chance(3) {
			continue
		}
		q.Items[i].Expr = w.likely(columns[i], kinds[i])
		if columns[i] == "id" && len(q.From) > 0 && q.From[0].Table != "" && len(q.Group) == 0 && len(q.Having) == 0 && (q.From[0].Table == "note" || q.From[0].Table == "book") {
			q.Items[i].Expr = op(api.OpAdd, lit(integer(20)), api.Expr{Kind: api.XColumn, Source: q.From[0].Name, Name: "id"})
		}
	}
}

// likely makes a value that a column can have.
func (w *writer) likely(column string, kind int) api.Expr {
	switch {
	case column == "type":
		return lit(text("note"))
	case column == "kind":
		return lit(text("s"))
	case column == "id":
		return lit(integer(10 + w.Intn(5)))
	case kind == api.Int:
		return lit(integer(1 + w.Intn(4)))
	}
	return lit(w.value(kind))
}
