package sql_test

import (
	"math/rand"
	"strconv"

	"dumbwaiter/api"
)

// leaf is an expression that can stand at a place, with its kind.
type leaf struct {
	expr api.Expr
	kind int
}

// maker makes statements that Check accepts.
type maker struct {
	*rand.Rand
	schema  api.Schema
	params  []int
	left    int // expressions that may still become larger
	sources int // names that were given
}

func (m *maker) one(n int) bool { return m.Intn(n) == 0 }

func (m *maker) kind() int { return 1 + m.Intn(4) }

// value is a value of a kind, seldom null.
func (m *maker) value(kind int) api.Value {
	if m.one(8) {
		return null
	}
	switch kind {
	case api.Bool:
		return boolean(m.Intn(2))
	case api.Int:
		return integer([]int{-1, 0, 1, 2, 3, 5, 30, api.MaxInt}[m.Intn(8)])
	case api.Text:
		return text([]string{"", "cat", "dog", "ann", "a%", "it's", `x\'`, "Z"}[m.Intn(8)])
	}
	return moment([]int{0, 86399, 86400, 90000, api.MaxMoment}[m.Intn(5)])
}

// data is data of the shop.
func (m *maker) data() api.Data {
	d := stock()
	var ids []api.Value
	for n := range d.Tables[persons].Rows {
		if m.one(4) {
			continue
		}
		ids = append(ids, integer(n+1))
	}
	maybe := func() api.Value {
		if len(ids) == 0 || m.one(4) {
			return null
		}
		return ids[m.Intn(len(ids))]
	}
	for i := range d.Tables {
		d.Tables[i].Rows = nil
	}
	for i, id := range ids {
		d.Tables[persons].Rows = append(d.Tables[persons].Rows, row(id, text([]string{"ann", "bob", "cat"}[i]), m.value(api.Int), m.value(api.Moment), m.value(api.Bool)))
		for _, to := range ids {
			if m.one(2) {
				d.Tables[links].Rows = append(d.Tables[links].Rows, row(id, to, m.value(api.Text)))
			}
		}
	}
	for i := range m.Intn(6) {
		d.Tables[pets].Rows = append(d.Tables[pets].Rows, row(integer(i), maybe(), text([]string{"cat", "dog", ""}[m.Intn(3)]), m.value(api.Int)))
	}
	if m.one(2) {
		d.Tables[nones].Rows = rows(row(integer(5), m.value(api.Bool)))
	}
	return d
}

// spot is what can stand at a place.
type spot struct {
	leaves  []leaf
	rows    []leaf // what can stand within an XAgg; nil: there cannot be one
	windows bool
}

// expr is an expression of a kind.
func (m *maker) expr(kind int, at spot) api.Expr {
	m.left--
	var fitting []leaf
	for _, l := range at.leaves {
		if l.kind == kind || l.kind == api.Null && m.one(3) {
			fitting = append(fitting, l)
		}
	}
	switch n := m.Intn(10); {
	case m.left <= 0 || n < 4:
		if len(fitting) > 0 && !m.one(4) {
			return fitting[m.Intn(len(fitting))].expr
		}
		if i := m.Intn(len(m.params) + 1); i < len(m.params) && m.params[i] == kind {
			return par(i)
		}
		return lit(m.value(kind))
	case n < 5:
		return scalar(m.query(at.leaves, 1, kind))
	case n < 6 && at.windows:
		if e, ok := m.window(kind, at); ok {
			return e
		}
	case n < 7 && at.rows != nil:
		if e, ok := m.aggregate(kind, at); ok {
			return e
		}
	}
	return m.operation(kind, at)
}

func (m *maker) window(kind int, at spot) (api.Expr, bool) {
	inner := spot{leaves: at.leaves}
	e := api.Expr{Kind: api.XWindow, Op: api.WinRow + m.Intn(4)}
	if e.Op == api.WinSum {
		e.Args = exprs(m.expr(api.Int, inner))
	}
	if e.Op == api.WinCount {
		e.Args = exprs(m.expr(m.kind(), inner))
	}
	for range m.Intn(2) {
		e.Group = append(e.Group, m.expr(m.kind(), inner))
	}
	e.Order = m.orders(inner)
	return e, kind == api.Int
}

func (m *maker) aggregate(kind int, at spot) (api.Expr, bool) {
	inner := spot{leaves: at.rows}
	e := api.Expr{Kind: api.XAgg, Op: api.AggRows + m.Intn(5)}
	switch e.Op {
	case api.AggRows:
		return e, kind == api.Int
	case api.AggCount, api.AggSum:
		e.Distinct = m.one(3)
		e.Args = exprs(m.expr(map[bool]int{true: api.Int, false: m.kind()}[e.Op == api.AggSum], inner))
		return e, kind == api.Int
	}
	e.Args = exprs(m.expr(kind, inner))
	return e, true
}

// operation is an operation, a case or a look-up, with a result of a kind.
func (m *maker) operation(kind int, at spot) api.Expr {
	x := func(k int) api.Expr { return m.expr(k, at) }
	switch m.Intn(7) {
	case 0:
		return cases(x(api.Bool), x(kind), x(kind))
	case 1:
		return cases(x(api.Bool), x(kind), x(api.Bool), x(kind), x(kind))
	case 2:
		return op(api.OpCoalesce, x(kind), x(kind))
	case 3:
		other := m.kind()
		if other+kind == api.Bool+api.Moment && other != kind {
			other = kind
		}
		return opN(api.OpCast, kind, x(other))
	}
	switch kind {
	case api.Int:
		switch m.Intn(5) {
		case 0:
			return op(api.OpNeg, x(api.Int))
		case 1:
			return op(api.OpLength, x(api.Text))
		case 2:
			return opN(api.OpUnit, 1+m.Intn(6), x(api.Moment))
		case 3:
			return op(api.OpSub, x(api.Moment), x(api.Moment))
		}
		return op([]int{api.OpAdd, api.OpSub, api.OpMul, api.OpDiv, api.OpMod}[m.Intn(5)], x(api.Int), x(api.Int))
	case api.Text:
		switch m.Intn(3) {
		case 0:
			return op(api.OpPart, x(api.Text), x(api.Int), x(api.Int))
		case 1:
			return op(api.OpConcat, x(api.Text), x(api.Text))
		}
		return op([]int{api.OpLower, api.OpUpper}[m.Intn(2)], x(api.Text))
	case api.Moment:
		if m.one(2) {
			return opN(api.OpTrunc, 1+m.Intn(6), x(api.Moment))
		}
		return op([]int{api.OpAdd, api.OpSub}[m.Intn(2)], x(api.Moment), x(api.Int))
	}
	return m.truth(at)
}

// truth is an operation with a Bool.
func (m *maker) truth(at spot) api.Expr {
	k := m.kind()
	x := func(k int) api.Expr { return m.expr(k, at) }
	switch m.Intn(9) {
	case 0:
		return op(api.OpNot, x(api.Bool))
	case 1:
		return op(api.OpNull, x(k))
	case 2:
		return op(api.OpLike, x(api.Text), x(api.Text))
	case 3:
		return in(x(k), x(k), lit(m.value(k)))
	case 4:
		return in(x(k), lit(m.value(k)), lit(m.value(k)))
	case 5:
		return inSub(x(k), m.query(at.leaves, 1, k))
	case 6:
		return exists(m.query(at.leaves, 1, k))
	case 7:
		return op(api.OpAnd+m.Intn(2), x(api.Bool), x(api.Bool))
	}
	return op(api.OpEqual+m.Intn(7), x(k), x(k))
}

func (m *maker) orders(at spot) []api.Order {
	var l []api.Order
	for range m.Intn(3) {
		l = append(l, api.Order{Expr: m.expr(m.kind(), at), Desc: m.one(2), Last: m.one(2)})
	}
	return l
}

// name is a new name.
func (m *maker) name() string {
	m.sources++
	return "s" + strconv.Itoa(m.sources)
}

// source is a source and its columns.
func (m *maker) source(outer []leaf) (api.Source, []leaf) {
	name := m.name()
	var columns []leaf
	if m.left > 0 && m.one(4) {
		q := m.query(outer, 1+m.Intn(3), 0)
		for _, x := range q.Items {
			columns = append(columns, leaf{col(name, x.Name), m.kinds(x.Name)})
		}
		return sub(q, name), columns
	}
	t := m.schema.Tables[m.Intn(len(m.schema.Tables))]
	for _, c := range t.Columns {
		columns = append(columns, leaf{col(name, c.Name), c.Kind})
	}
	return table(t.Name, name), columns
}

// kinds is the kind of an item, which its name tells.
func (m *maker) kinds(name string) int { return int(name[1] - '0') }

// query is a select with some items, of a kind unless it is 0, around which there are leaves.
func (m *maker) query(outer []leaf, count, kind int) api.Select {
	q := api.Select{Limit: -1}
	var own []leaf
	visible := func() []leaf { return append(append([]leaf(nil), own...), outer...) }
	if !m.one(8) {
		x, columns := m.source(outer)
		q.From, own = from(x), columns
		for m.one(3) && len(q.Joins) < 2 {
			x, columns := m.source(outer)
			own = append(own, columns...)
			q.Joins = append(q.Joins, api.Join{Left: m.one(2), Source: x, On: m.on(columns, visible())})
		}
	}
	at := spot{leaves: visible()}
	if m.one(2) {
		q.Where = exprs(m.on(own, visible()))
	}
	result := spot{leaves: at.leaves, windows: m.one(2)}
	if m.one(3) {
		for range m.Intn(3) {
			k := m.kind()
			e := m.expr(k, at)
			q.Group = append(q.Group, e)
			outer = append([]leaf{{e, k}, {e, k}}, outer...)
		}
		result = spot{leaves: outer, rows: at.leaves}
		if len(result.rows) == 0 {
			result.rows = []leaf{}
		}
		if len(q.Group) == 0 || m.one(3) {
			q.Having = exprs(m.expr(api.Bool, result))
		}
	}
	for i := range count {
		k := kind
		if k == 0 {
			k = m.kind()
		}
		// An item whose kind is Null has the kind in its name all the same: nulls fit everywhere.
		q.Items = append(q.Items, item("i"+strconv.Itoa(k)+strconv.Itoa(i), m.expr(k, result)))
	}
	q.Order = m.orders(result)
	if m.one(5) {
		q.Distinct = true
		for i := range q.Order {
			q.Order[i].Expr = q.Items[m.Intn(count)].Expr
			if m.one(3) {
				q.Order[i].Expr = op(api.OpNull, q.Order[i].Expr)
			}
		}
	}
	if m.one(4) {
		q.Limit = m.Intn(4)
	}
	if m.one(4) {
		q.Offset = m.Intn(3)
	}
	return q
}

// on is a condition, often with equal columns, so that there are rows for which it is true.
func (m *maker) on(own, all []leaf) api.Expr {
	if len(own) == 0 || m.one(4) {
		return m.expr(api.Bool, spot{leaves: all})
	}
	a := own[m.Intn(len(own))]
	var b api.Expr
	for range 20 {
		if l := all[m.Intn(len(all))]; l.kind == a.kind {
			b = l.expr
		}
	}
	if b.Kind == 0 || m.one(4) {
		b = m.expr(max(a.kind, api.Bool), spot{leaves: all})
	}
	e := op(api.OpEqual, a.expr, b)
	if m.one(2) {
		e = op(api.OpEqual, b, a.expr)
	}
	if m.one(3) {
		e = op(api.OpAnd, e, m.expr(api.Bool, spot{leaves: all}))
	}
	return e
}

// statement is a select, insert, update or delete.
func (m *maker) statement() api.Statement {
	st := api.Statement{Kind: api.StSelect, Params: m.params}
	if m.one(2) {
		st.Select = selects(m.query(nil, 1+m.Intn(3), 0))
		return st
	}
	st.Kind = api.StInsert + m.Intn(3)
	t := m.schema.Tables[m.Intn(len(m.schema.Tables))]
	st.Table = t.Name
	st.Name = m.name()
	var columns []leaf
	for _, c := range t.Columns {
		columns = append(columns, leaf{col(st.Name, c.Name), c.Kind})
	}
	var chosen []api.Column
	for _, i := range m.Perm(len(t.Columns)) {
		if c := t.Columns[i]; st.Kind == api.StInsert && !c.Null || m.one(3) || len(chosen) == 0 {
			chosen = append(chosen, c)
		}
	}
	switch st.Kind {
	case api.StInsert:
		st.Name = ""
		m.insert(&st, chosen)
	case api.StUpdate:
		for _, c := range chosen {
			st.Columns = append(st.Columns, c.Name)
			st.Sets = append(st.Sets, m.expr(c.Kind, spot{leaves: columns}))
		}
	}
	if st.Kind != api.StInsert && !m.one(4) {
		st.Where = exprs(m.on(columns, columns))
	}
	return st
}

// insert gives an insert its columns and rows.
func (m *maker) insert(st *api.Statement, chosen []api.Column) {
	for _, c := range chosen {
		st.Columns = append(st.Columns, c.Name)
	}
	if m.one(2) {
		q := m.query(nil, len(chosen), 0)
		for i, c := range chosen {
			q.Items[i].Expr = m.expr(c.Kind, spot{})
			if len(q.From) > 0 && !q.Distinct && len(q.Group) == 0 && len(q.Having) == 0 && q.From[0].Table == "person" && c.Kind == api.Int {
				q.Items[i].Expr = op(api.OpAdd, num(10), col(q.From[0].Name, "id"))
			}
		}
		if q.Distinct {
			q.Order = nil
		}
		st.Select = selects(q)
		return
	}
	for range 1 + m.Intn(2) {
		var l []api.Expr
		for _, c := range chosen {
			l = append(l, m.expr(c.Kind, spot{}))
		}
		st.Rows = append(st.Rows, l)
	}
}

// made is a statement, with data and values of its parameters.
func made(schema api.Schema, seed int) (api.Statement, api.Data, []api.Value) {
	m := &maker{Rand: rand.New(rand.NewSource(int64(seed))), schema: schema, left: 5 + seed%40}
	m.params = []int{m.kind(), m.kind(), m.kind()}[:m.Intn(4)]
	st := m.statement()
	var params []api.Value
	for _, kind := range st.Params {
		params = append(params, m.value(kind))
	}
	return st, m.data(), params
}
