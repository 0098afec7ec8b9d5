package query

import (
	"dumbwaiter/api"
)

// condition returns a condition that is asked of the object of the block.
func (b *block) condition(e api.Expr) api.Expr {
	at := b.spot()
	switch e.Kind {
	case api.XColumn:
		from := b
		if e.Source == "up" {
			from = b.outer
		}
		return from.value(from.object.entity, e.Name)
	case api.XSome, api.XEvery, api.XMany:
		return b.multi(e, b.routeOf(e, at))
	case api.XIs:
		return b.is(b.entity(e.Name), b.routeOf(e, at))
	}
	return rebuilt(e, b.condition)
}

// spot returns the spot at which conditions of the block stand.
func (b *block) spot() *spot {
	if b == nil {
		return nil
	}
	return &spot{b.object.entity, b.outer.spot()}
}

// is returns whether the object of a route is of an entity, or below it.
func (b *block) is(e *entity, r route) api.Expr {
	t := b.steps(b.object, r.relations())
	no := literal(api.Value{Kind: api.Bool})
	switch {
	case t.entity.isOf(e.name):
		return operation(api.OpNot, operation(api.OpNull, t.head("id")))
	case !e.isOf(t.entity.name):
		return no
	case t.optional:
		return operation(api.OpCoalesce, t.typeIn(e), no)
	}
	return t.typeIn(e)
}

// one is the name of an item that is 1.
const one = "one"

// oneItem returns the items of a select of which only matters how many rows it has.
func oneItem() []api.Item { return []api.Item{{Name: one, Expr: literal(number(1))}} }

// multi returns the value of an XSome, XEvery or XMany.
func (b *block) multi(e api.Expr, r route) api.Expr {
	inner := b.related(b.steps(b.object, r.ones), r.end)
	inner.items = oneItem()
	var judged api.Expr
	for _, arg := range e.Args {
		// A row with 1 is joined with the objects for which the condition is true: so it is no deeper within the select than it must be.
		condition := inner.condition(arg)
		x := api.Source{Name: inner.name(), Sub: []api.Select{{Items: oneItem(), Limit: -1}}}
		inner.joins = append(inner.joins, api.Join{Left: e.Kind == api.XEvery, Source: x, On: condition})
		judged = column(x.Name, one)
	}
	q := inner.query()
	rows := api.Expr{Kind: api.XAgg, Op: api.AggRows}
	switch e.Kind {
	case api.XMany:
		q.Items[0].Expr = rows
		return api.Expr{Kind: api.XScalar, Sub: []api.Select{q}}
	case api.XEvery:
		q.Having = []api.Expr{equal(rows, api.Expr{Kind: api.XAgg, Op: api.AggCount, Args: []api.Expr{judged}})}
	}
	return api.Expr{Kind: api.XExists, Sub: []api.Select{q}}
}

// related returns a block with the objects that an object has by a RelMany or RelPairs.
func (b *block) related(t *thing, x member) *block {
	if x.what == isPairs {
		return b.paired(t, b.pairing(x))
	}
	return b.referring(t, x)
}

// referring returns a block with the objects that refer to an object.
func (b *block) referring(t *thing, x member) *block {
	e := b.entity(x.slot.To)
	back := e.members[x.relation.Back].slot
	home := e.home(back.Entity)
	inner := b.blockOf(b, e, home)
	inner.begin(home)
	inner.link(t, equal(inner.object.column(back, true), t.head("id")))
	inner.conditions = append(inner.conditions, b.seen(inner.object)...)
	if !e.root.Apart && back.Entity != e.name {
		inner.conditions = append(inner.conditions, inner.object.typeIn(e))
	}
	return inner
}

// link adds the condition by which rows of the first source belong to an object of the block around: another tenant has none of them.
func (b *block) link(t *thing, condition api.Expr) {
	b.conditions = append(b.conditions, condition)
	if t.entity.root.Tenant {
		b.conditions = append(b.conditions, equal(column(b.from.Name, "tenant"), t.head("tenant")))
	}
}

// paired returns a block with the objects that an object has in pairs.
func (b *block) paired(t *thing, p pairing) *block {
	e := p.right
	if !p.forward {
		e = p.left
	}
	inner := b.blockOf(b, e, p.owner+"_"+p.relation)
	left, right := column(inner.from.Name, "left_id"), column(inner.from.Name, "right_id")
	isLeft, isRight := equal(left, t.head("id")), equal(right, t.head("id"))
	other := left
	switch {
	case p.forward && p.backward:
		inner.link(t, operation(api.OpOr, isLeft, isRight))
		other = api.Expr{Kind: api.XCase, Args: []api.Expr{copied(isLeft), right, left}}
	case p.forward:
		inner.link(t, isLeft)
		other = right
	default:
		inner.link(t, isRight)
	}
	inner.joinRoot(inner.object, other, column(inner.from.Name, "tenant"))
	return inner
}
