package query

import (
	"slices"
	"strconv"
	"strings"

	"dumbwaiter/api"
)

// Compile returns a statement for a find.
func Compile(m api.Model, f api.Find, params []int) (api.Statement, api.Errno) {
	c, err := catalogOf(m)
	if err != api.OK {
		return api.Statement{}, err
	}
	e, err := checker{catalog: c, params: params}.checkFind(f)
	if err != api.OK {
		return api.Statement{}, err
	}
	x := compiler{catalog: c, tenant: f.Tenant, gone: f.Gone}
	b := x.objects(e, true)
	b.conditions = append(b.conditions, mapped(f.Where, b.condition)...)
	b.items = b.row(x.columns(e))
	for _, o := range f.Order {
		b.order = append(b.order, api.Order{Expr: b.value(e, o.Path), Desc: o.Desc, Last: o.Last})
	}
	for _, name := range scoped(e.root.Tenant, "id") {
		b.order = append(b.order, api.Order{Expr: b.object.head(name)})
	}
	q := b.query()
	q.Limit, q.Offset = f.Limit, f.Offset
	return statement(q, params), api.OK
}

// statement returns a statement of a select.
func statement(q api.Select, params []int) api.Statement {
	return api.Statement{Kind: api.StSelect, Params: slices.Clone(params), Select: []api.Select{q}}
}

// compiler makes selects of what is seen.
type compiler struct {
	*catalog
	tenant int
	gone   bool
	count  int // of the sources that have a name
}

// name returns a name for the next source. No other source of the statement has it.
func (c *compiler) name() string {
	c.count++
	return "s" + strconv.Itoa(c.count)
}

// source returns a source with the rows of a table.
func (c *compiler) source(table string) api.Source {
	return api.Source{Name: c.name(), Table: table}
}

// thing is an object whose rows are in sources of a select.
type thing struct {
	entity   *entity
	sources  map[string]string // by the tables
	optional bool              // there may be none: then all its columns are null
	ones     map[string]*thing // to which its RelOnes lead, as far as they have been joined
}

// column returns the column of a slot: for embedded values both names with an underscore between them, for a reference with id behind it.
func (t *thing) column(slot api.Slot, isOne bool) api.Expr {
	table := t.entity.root.Name
	if t.entity.root.Apart {
		table = slot.Entity
	}
	name := strings.ReplaceAll(slot.Name, ".", "_")
	if isOne {
		name += "_id"
	}
	return column(t.sources[table], name)
}

// head returns a column that the table of the root has.
func (t *thing) head(name string) api.Expr { return column(t.sources[t.entity.root.Name], name) }

// typeIn returns whether the object is of an entity of its family, or below it. The family has more than one entity.
func (t *thing) typeIn(e *entity) api.Expr {
	args := []api.Expr{t.head("type")}
	for _, name := range e.family {
		args = append(args, literal(textOf(name)))
	}
	if len(args) == 2 {
		return operation(api.OpEqual, args...)
	}
	return api.Expr{Kind: api.XIn, Args: args}
}

// literal returns the expression of a value.
func literal(v api.Value) api.Expr { return api.Expr{Kind: api.XValue, Value: v} }

// column returns a column of a source.
func column(source, name string) api.Expr {
	return api.Expr{Kind: api.XColumn, Source: source, Name: name}
}

// operation returns an XOp.
func operation(op int, args ...api.Expr) api.Expr {
	return api.Expr{Kind: api.XOp, Op: op, Args: args}
}

// equal returns whether two expressions are equal.
func equal(a, b api.Expr) api.Expr { return operation(api.OpEqual, a, b) }

// all returns whether all conditions hold. The last one is not as deep as those ahead of it.
func all(l []api.Expr) api.Expr {
	e := l[0]
	for _, x := range l[1:] {
		e = operation(api.OpAnd, e, x)
	}
	return e
}

// scoped returns names of columns behind that of the tenant, if there is one.
func scoped(tenant bool, names ...string) []string {
	if tenant {
		return append([]string{"tenant"}, names...)
	}
	return names
}

// block is a select that is being made, whose rows are objects.
type block struct {
	*compiler
	outer      *block
	object     *thing
	from       api.Source
	joins      []api.Join
	conditions []api.Expr
	items      []api.Item
	order      []api.Order
}

// query returns the select.
func (b *block) query() api.Select {
	q := api.Select{Items: b.items, From: []api.Source{b.from}, Joins: b.joins, Order: b.order, Limit: -1}
	if len(b.conditions) > 0 {
		q.Where = []api.Expr{all(b.conditions)}
	}
	return q
}

// objects returns a block with the objects of an entity and those below it. wide says whether it has the columns of all of them.
func (c *compiler) objects(e *entity, wide bool) *block {
	b := &block{compiler: c}
	t := &thing{entity: e, sources: map[string]string{}, ones: map[string]*thing{}}
	b.object = t
	if !e.root.Apart {
		b.from = c.source(e.root.Name)
		t.sources[e.root.Name] = b.from.Name
		b.conditions = c.seen(t)
		if e.name != e.root.Name {
			b.conditions = append(b.conditions, t.typeIn(e))
		}
		return b
	}
	b.from = c.source(e.name)
	t.sources[e.name] = b.from.Name
	b.joinLine(t, b.from.Name)
	if wide {
		for _, name := range e.family[1:] {
			b.joinTable(t, name, b.from.Name, true)
		}
	}
	b.conditions = c.seen(t)
	return b
}

// seen returns the conditions for an object to be seen.
func (c *compiler) seen(t *thing) []api.Expr {
	var l []api.Expr
	if t.entity.root.Tenant && c.tenant != 0 {
		l = append(l, equal(t.head("tenant"), literal(number(c.tenant))))
	}
	if t.entity.root.Soft && !c.gone {
		l = append(l, operation(api.OpNull, t.head("gone")))
	}
	return l
}

// joinLine joins the tables of the line of an object that are not there yet, by the key of a source that is.
func (b *block) joinLine(t *thing, by string) {
	if !t.entity.root.Apart {
		return
	}
	for _, name := range t.entity.line {
		if t.sources[name] == "" {
			b.joinTable(t, name, by, t.optional)
		}
	}
}

// joinTable joins a table of the family of an object by the key of a source.
func (b *block) joinTable(t *thing, table, by string, left bool) {
	x := b.source(table)
	t.sources[table] = x.Name
	on := mapped(scoped(t.entity.root.Tenant, "id"), func(name string) api.Expr { return equal(column(x.Name, name), column(by, name)) })
	b.joins = append(b.joins, api.Join{Left: left, Source: x, On: all(on)})
}

// step returns the object to which a RelOne of an object of the block leads, if it is seen.
func (b *block) step(t *thing, one member) *thing {
	if to := t.ones[one.slot.Name]; to != nil {
		return to
	}
	e := b.entity(one.slot.To)
	to := &thing{entity: e, sources: map[string]string{}, optional: true, ones: map[string]*thing{}}
	t.ones[one.slot.Name] = to
	x := b.source(e.root.Name)
	to.sources[e.root.Name] = x.Name
	on := []api.Expr{equal(to.head("id"), t.column(one.slot, true))}
	if e.root.Tenant {
		on = append(on, equal(to.head("tenant"), t.head("tenant")))
	}
	if e.root.Soft && !b.gone {
		on = append(on, operation(api.OpNull, to.head("gone")))
	}
	b.joins = append(b.joins, api.Join{Left: true, Source: x, On: all(on)})
	b.joinLine(to, x.Name)
	return to
}

// steps is step for several RelOnes, one after another.
func (b *block) steps(t *thing, ones []member) *thing {
	for _, one := range ones {
		t = b.step(t, one)
	}
	return t
}

// value returns the value of a path that is read from the object of the block.
func (b *block) value(e *entity, path string) api.Expr {
	r, _ := b.toValue(e, path)
	t := b.steps(b.object, r.ones)
	switch r.end.what {
	case isValue:
		return t.column(r.end.slot, false)
	case isOne:
		if root := b.entity(r.end.slot.To).root; root.Soft && !b.gone {
			// The reference counts only if its object is seen.
			return b.step(t, r.end).head("id")
		}
		return t.column(r.end.slot, true)
	case isFormula:
		return t.formula(r.end)
	}
	return t.head(r.end.slot.Name)
}

// formula returns the value of a computed field of an object.
func (t *thing) formula(x member) api.Expr {
	var made func(e api.Expr) api.Expr
	made = func(e api.Expr) api.Expr {
		if e.Kind == api.XColumn {
			return t.column(t.entity.members[e.Name].slot, false)
		}
		return rebuilt(e, made)
	}
	e := made(x.formula)
	if t.optional {
		// Of nulls, too, a formula can make a value.
		e = api.Expr{Kind: api.XCase, Args: []api.Expr{operation(api.OpNull, t.head("id")), literal(api.Value{}), e}}
	}
	return e
}

// row returns the items of an answer with these columns.
func (b *block) row(columns []api.Slot) []api.Item {
	t := b.object
	e := t.entity
	head := func(there bool, name string, otherwise api.Value) api.Expr {
		if there {
			return t.head(name)
		}
		return literal(otherwise)
	}
	l := []api.Expr{
		head(b.hasType(e), "type", textOf(e.name)),
		head(e.root.Tenant, "tenant", api.Value{}),
		t.head("id"),
		head(e.root.Version, "version", api.Value{}),
		head(e.root.Soft, "gone", api.Value{}),
	}
	for _, slot := range columns {
		l = append(l, t.column(slot, slot.Kind == 0))
	}
	var items []api.Item
	for i, x := range l {
		items = append(items, api.Item{Name: "c" + strconv.Itoa(i), Expr: x})
	}
	return items
}

// hasType reports whether the table of the root of an entity has a type: whether the family has more than one entity.
func (c *catalog) hasType(e *entity) bool { return len(c.entity(e.root.Name).family) > 1 }
