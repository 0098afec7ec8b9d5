package sql

import (
	"strconv"

	"dumbwaiter/api"
)

// statement writes a statement.
func (p *printer) statement(st api.Statement) {
	switch st.Kind {
	case api.StSelect:
		p.selects(st.Select)
	case api.StInsert:
		p.insert(st)
	case api.StUpdate:
		p.update(st)
	case api.StDelete:
		p.delete(st)
	}
}

// insert writes an insert.
func (p *printer) insert(st api.Statement) {
	p.put("insert into ")
	p.name(st.Table)
	p.put(" (")
	putList(p, st.Columns, p.name)
	p.put(") ")
	p.when(len(st.Rows) > 0, "values ")
	putList(p, st.Rows, func(row []api.Expr) {
		p.put("(")
		p.exprs(row)
		p.put(")")
	})
	p.selects(st.Select)
}

// update writes an update.
func (p *printer) update(st api.Statement) {
	p.put("update ")
	if p.id == api.DialectBracket {
		p.name(st.Name)
	} else {
		p.source(api.Source{Name: st.Name, Table: st.Table})
	}
	p.put(" set ")
	sets := st.Sets
	putList(p, st.Columns, func(name string) {
		p.name(name)
		p.put(" = ")
		p.expr(sets[0])
		sets = sets[1:]
	})
	if p.id == api.DialectBracket {
		p.put(" from ")
		p.source(api.Source{Name: st.Name, Table: st.Table})
	}
	p.clause(" where ", st.Where)
}

// delete writes a delete.
func (p *printer) delete(st api.Statement) {
	p.put("delete ")
	if p.id != api.DialectPlain {
		p.name(st.Name)
		p.put(" ")
	}
	p.put("from ")
	p.source(api.Source{Name: st.Name, Table: st.Table})
	p.clause(" where ", st.Where)
}

// clause writes a word and expressions, if there are any.
func (p *printer) clause(word string, l []api.Expr) {
	if len(l) > 0 {
		p.put(word)
		p.exprs(l)
	}
}

// selects writes none or one select.
func (p *printer) selects(l []api.Select) {
	for _, q := range l {
		p.query(q)
	}
}

// query writes a select.
func (p *printer) query(q api.Select) {
	p.put("select ")
	p.when(q.Distinct, "distinct ")
	putList(p, q.Items, func(x api.Item) {
		p.expr(x.Expr)
		p.put(" as ")
		p.name(x.Name)
	})
	for _, x := range q.From {
		p.put(" from ")
		p.source(x)
	}
	for _, x := range q.Joins {
		p.when(x.Left, " left")
		p.put(" join ")
		p.source(x.Source)
		p.put(" on ")
		p.expr(x.On)
	}
	p.clause(" where ", q.Where)
	p.clause(" group by ", q.Group)
	p.clause(" having ", q.Having)
	if len(q.Order) > 0 {
		p.put(" order by ")
		putList(p, q.Order, p.order)
	}
	p.limit(q.Limit, q.Offset)
}

// source writes a source.
func (p *printer) source(x api.Source) {
	if x.Table != "" {
		p.name(x.Table)
	} else {
		p.put("(")
		p.selects(x.Sub)
		p.put(")")
	}
	p.put(" as ")
	p.name(x.Name)
}

// limit writes Limit and Offset.
func (p *printer) limit(limit, offset int) {
	n, m := strconv.Itoa(limit), strconv.Itoa(offset)
	hasLimit, hasOffset := limit != -1, offset != 0
	switch p.id {
	case api.DialectPlain:
		p.when(hasLimit, " limit "+n)
		p.when(hasOffset, " offset "+m)
	case api.DialectTick:
		if !hasLimit {
			n = strconv.Itoa(api.MaxInt)
		}
		if hasOffset {
			n = m + ", " + n
		}
		p.when(hasLimit || hasOffset, " limit "+n)
	case api.DialectBracket:
		p.when(hasLimit || hasOffset, " offset "+m+" rows")
		p.when(hasLimit, " fetch next "+n+" rows only")
	}
}
