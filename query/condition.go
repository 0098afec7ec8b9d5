package query

import (
	"dumbwaiter/api"
)

// condition returns a condition that is asked of the object of the block.
func (b *block) condition(e api.Expr) api.Expr {
	at := b.spot()
	switch e.Kind {
	case api.XColumn:
		from := b
		if e.Source == "up" {
			from = b.outer
		}
		return from.value(from.object.entity, e.Name)
	case api.XSome, api.XEvery, api.XMany:
		return b.multi(e, b.routeOf(e, at))
	case api.XIs:
		return b.is(b.entity(e.Name), b.routeOf(e, at))
	}
	return rebuilt(e, b.condition)
}

// spot returns the spot at which conditions of the block stand.
func (b *block) spot() *spot {
	if b == nil {
		return nil
	}
	return &spot{b.object.entity, b.outer.spot()}
}

// is returns whether the object of a route is of an entity, or below it.
func (b *block) is(e *entity, r route) api.Expr {
	t := b.steps(b.object, r.relations())
	var is api.Expr
	switch {
	case t.entity.root.Name != e.root.Name, !t.entity.isOf(e.name) && !e.isOf(t.entity.name):
		return literal(api.Value{Kind: api.Bool})
	case t.entity.isOf(e.name):
		return operation(api.OpNot, operation(api.OpNull, t.head("id")))
	default:
		is = t.typeIn(e)
	}
	if t.optional {
		is = operation(api.OpCoalesce, is, literal(api.Value{Kind: api.Bool}))
	}
	return is
}

// one is the name of an item that is 1.
const one = "one"

// oneItem returns the items of a select of which only matters how many rows it has.
func oneItem() []api.Item { return []api.Item{{Name: one, Expr: literal(number(1))}} }

// multi returns the value of an XSome, XEvery or XMany.
func (b *block) multi(e api.Expr, r route) api.Expr {
	inner := b.related(b.steps(b.object, r.ones), r.end)
	inner.items = oneItem()
	count := api.Expr{Kind: api.XAgg, Op: api.AggRows}
	var having []api.Expr
	for _, arg := range e.Args {
		// What the condition is true for is joined with one row. So the condition is no deeper than it must be.
		condition := inner.condition(arg)
		x := api.Source{Name: inner.name(), Sub: []api.Select{{Items: oneItem(), Limit: -1}}}
		inner.joins = append(inner.joins, api.Join{Left: e.Kind == api.XEvery, Source: x, On: condition})
		if e.Kind == api.XEvery {
			holds := api.Expr{Kind: api.XAgg, Op: api.AggCount, Args: []api.Expr{column(x.Name, one)}}
			having = []api.Expr{equal(count, holds)}
		}
	}
	if e.Kind == api.XMany {
		inner.items[0].Expr = count
	}
	q := inner.query()
	q.Having = having
	kind := api.XExists
	if e.Kind == api.XMany {
		kind = api.XScalar
	}
	return api.Expr{Kind: kind, Sub: []api.Select{q}}
}

// related returns a block with the objects that an object has by a RelMany or RelPairs.
func (b *block) related(t *thing, x member) *block {
	if x.what == isPairs {
		return b.paired(t, b.pairing(x))
	}
	return b.referring(t, x)
}

// referring returns a block with the objects that refer to an object.
func (b *block) referring(t *thing, x member) *block {
	e := b.entity(x.slot.To)
	back := e.members[x.relation.Back].slot
	home := e.root.Name
	if e.root.Apart {
		home = back.Entity
	}
	inner := b.inner(e, home)
	to := inner.object
	to.sources[home] = inner.from.Name
	inner.conditions = []api.Expr{equal(to.column(back, true), t.head("id"))}
	if t.entity.root.Tenant {
		inner.conditions = append(inner.conditions, equal(column(inner.from.Name, "tenant"), t.head("tenant")))
	}
	inner.joinLine(to, inner.from.Name)
	inner.conditions = append(inner.conditions, b.seen(to)...)
	if !e.root.Apart && back.Entity != e.name {
		inner.conditions = append(inner.conditions, to.typeIn(e))
	}
	return inner
}

// inner returns a block within another one, for objects of an entity, whose first source is a table.
func (b *block) inner(e *entity, table string) *block {
	to := &thing{entity: e, sources: map[string]string{}, ones: map[string]*thing{}}
	return &block{compiler: b.compiler, outer: b, object: to, from: b.source(table)}
}

// paired returns a block with the objects that an object has in pairs.
func (b *block) paired(t *thing, p pairing) *block {
	e := p.right
	if !p.forward {
		e = p.left
	}
	inner := b.inner(e, p.owner+"_"+p.relation)
	left, right := column(inner.from.Name, "left_id"), column(inner.from.Name, "right_id")
	isLeft, isRight := equal(left, t.head("id")), equal(right, t.head("id"))
	other := left
	switch {
	case p.forward && p.backward:
		inner.conditions = []api.Expr{operation(api.OpOr, isLeft, isRight)}
		other = api.Expr{Kind: api.XCase, Args: []api.Expr{equal(left, t.head("id")), right, left}}
	case p.forward:
		inner.conditions, other = []api.Expr{isLeft}, right
	default:
		inner.conditions = []api.Expr{isRight}
	}
	if t.entity.root.Tenant {
		inner.conditions = append(inner.conditions, equal(column(inner.from.Name, "tenant"), t.head("tenant")))
	}
	to := inner.object
	x := b.source(e.root.Name)
	to.sources[e.root.Name] = x.Name
	on := []api.Expr{equal(to.head("id"), other)}
	if e.root.Tenant {
		on = append(on, equal(to.head("tenant"), column(inner.from.Name, "tenant")))
	}
	inner.joins = append(inner.joins, api.Join{Source: x, On: all(on)})
	inner.joinLine(to, x.Name)
	inner.conditions = append(inner.conditions, b.seen(to)...)
	return inner
}
