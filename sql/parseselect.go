package sql

import (
	"dumbwaiter/api"
)

// query reads a select.
func (p *parser) query() api.Select {
	p.enter()
	p.need("select ")
	q := api.Select{Distinct: p.take("distinct ")}
	q.Items = listOf(p, func() api.Item {
		e := p.expr()
		p.need(" as ")
		return api.Item{Name: p.name(), Expr: e}
	})
	if p.take(" from ") {
		q.From = []api.Source{p.source()}
	}
	for p.has(" left join ") || p.has(" join ") {
		q.Joins = append(q.Joins, p.join())
	}
	q.Where = p.condition(" where ")
	if p.take(" group by ") {
		q.Group = p.exprs()
	}
	q.Having = p.condition(" having ")
	if p.take(" order by ") {
		q.Order = listOf(p, p.order)
	}
	q.Limit, q.Offset = p.limit()
	p.depth--
	return q
}

// join reads a join.
func (p *parser) join() api.Join {
	j := api.Join{Left: p.take(" left")}
	p.need(" join ")
	j.Source = p.source()
	p.need(" on ")
	j.On = p.expr()
	return j
}

// source reads a source.
func (p *parser) source() api.Source {
	var x api.Source
	if p.take("(") {
		x.Sub = []api.Select{p.query()}
		p.need(")")
	} else {
		x.Table = p.name()
	}
	p.need(" as ")
	x.Name = p.name()
	return x
}

// condition reads the expression behind a word, if the word is next.
func (p *parser) condition(word string) []api.Expr {
	if !p.take(word) {
		return nil
	}
	return []api.Expr{p.expr()}
}

// order reads an element of an order.
func (p *parser) order() api.Order {
	o := api.Order{Expr: p.expr(), Desc: p.take(" desc")}
	o.Last = p.lastOf(o.Desc) || p.id == api.DialectPlain && p.take(" nulls last")
	return o
}

// limit reads Limit and Offset. A number for which nothing is written does not stand there.
func (p *parser) limit() (limit, offset int) {
	limit = -1
	switch p.id {
	case api.DialectPlain:
		if p.take(" limit ") {
			limit = p.numberBut(-1)
		}
		if p.take(" offset ") {
			offset = p.numberBut(0)
		}
	case api.DialectTick:
		if !p.take(" limit ") {
			break
		}
		limit = p.numberBut(-1)
		if p.take(", ") {
			p.require(limit != 0)
			offset, limit = limit, p.numberBut(-1)
		}
	case api.DialectBracket:
		if !p.take(" offset ") {
			break
		}
		offset = p.number()
		p.need(" rows")
		if p.take(" fetch next ") {
			limit = p.numberBut(-1)
			p.need(" rows only")
		}
		p.require(limit != -1 || offset != 0)
	}
	return limit, offset
}
