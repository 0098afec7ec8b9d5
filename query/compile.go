package query

import (
	"slices"
	"strconv"
	"strings"

	"dumbwaiter/api"
)

// Compile returns a statement for a find.
func Compile(m api.Model, f api.Find, params []int) (api.Statement, api.Errno) {
	c, err := catalogOf(m)
	if err != api.OK {
		return api.Statement{}, err
	}
	e, err := checker{catalog: c, params: params}.checkFind(f)
	if err != api.OK {
		return api.Statement{}, err
	}
	x := compiler{catalog: c, tenant: f.Tenant, gone: f.Gone}
	b := x.objects(e, true)
	b.conditions = append(b.conditions, mapped(f.Where, b.condition)...)
	b.items = b.row(x.columns(e))
	for _, o := range f.Order {
		b.order = append(b.order, api.Order{Expr: b.value(e, o.Path), Desc: o.Desc, Last: o.Last})
	}
	for _, name := range scoped(e.root.Tenant, "id") {
		b.order = append(b.order, api.Order{Expr: b.object.head(name)})
	}
	q := b.query()
	q.Limit, q.Offset = f.Limit, f.Offset
	return statement(q, params), api.OK
}

// statement returns a statement of a select.
func statement(q api.Select, params []int) api.Statement {
	return api.Statement{Kind: api.StSelect, Params: slices.Clone(params), Select: []api.Select{q}}
}

// compiler makes selects of what is seen.
type compiler struct {
	*catalog
	tenant int
	gone   bool
	count  int // of the sources that have a name
}

// name returns a name for the next source. No other source of the statement has it.
func (c *compiler) name() string {
	c.count++
	return "s" + strconv.Itoa(c.count)
}

// source returns a source with the rows of a table.
func (c *compiler) source(table string) api.Source {
	return api.Source{Name: c.name(), Table: table}
}

// thing is an object whose rows are in sources of a select.
type thing struct {
	entity   *entity
	sources  map[string]string // by the tables
	optional bool              // there may be none: then all its columns are null
	ones     map[string]*thing // to which its RelOnes lead, as far as they have been joined
}

// newThing returns an object of an entity whose rows are in no source yet.
func newThing(e *entity, optional bool) *thing {
	return &thing{e, map[string]string{}, optional, map[string]*thing{}}
}

// column returns the column of a slot: for embedded values both names with an underscore between them, for a reference with id behind it.
func (t *thing) column(slot api.Slot, isOne bool) api.Expr {
	name := strings.ReplaceAll(slot.Name, ".", "_")
	if isOne {
		name += "_id"
	}
	return column(t.sources[t.entity.home(slot.Entity)], name)
}

// head returns a column that the table of the root has.
func (t *thing) head(name string) api.Expr { return column(t.sources[t.entity.root.Name], name) }

// typeIn returns whether the object is of an entity of its family, or below it. The family has more than one entity.
func (t *thing) typeIn(e *entity) api.Expr {
	args := []api.Expr{t.head("type")}
	for _, name := range e.family {
		args = append(args, literal(textOf(name)))
	}
	if len(args) == 2 {
		return operation(api.OpEqual, args...)
	}
	return api.Expr{Kind: api.XIn, Args: args}
}

// literal returns the expression of a value.
func literal(v api.Value) api.Expr { return api.Expr{Kind: api.XValue, Value: v} }

// column returns a column of a source.
func column(source, name string) api.Expr {
	return api.Expr{Kind: api.XColumn, Source: source, Name: name}
}

// operation returns an XOp.
func operation(op int, args ...api.Expr) api.Expr {
	return api.Expr{Kind: api.XOp, Op: op, Args: args}
}

// equal returns whether two expressions are equal.
func equal(a, b api.Expr) api.Expr { return operation(api.OpEqual, a, b) }

// all returns whether all conditions hold. The last one is not as deep as those ahead of it.
func all(l []api.Expr) api.Expr {
	e := l[0]
	for _, x := range l[1:] {
		e = operation(api.OpAnd, e, x)
	}
	return e
}

// scoped returns names of columns behind that of the tenant, if there is one.
func scoped(tenant bool, names ...string) []string {
	if tenant {
		return append([]string{"tenant"}, names...)
	}
	return names
}

// block is a select that is being made, whose rows are objects.
type block struct {
	*compiler
	outer      *block
	object     *thing
	from       api.Source
	joins      []api.Join
	conditions []api.Expr
	items      []api.Item
	order      []api.Order
}

// query returns the select.
func (b *block) query() api.Select {
	q := api.Select{Items: b.items, From: []api.Source{b.from}, Joins: b.joins, Order: b.order, Limit: -1}
	if len(b.conditions) > 0 {
		q.Where = []api.Expr{all(b.conditions)}
	}
	return q
}

// blockOf returns a block within another one, for objects of an entity, whose first source is a table.
func (c *compiler) blockOf(outer *block, e *entity, table string) *block {
	return &block{compiler: c, outer: outer, object: newThing(e, false), from: c.source(table)}
}

// begin makes the first source of the block that of a table of the family of its objects, and joins the others of their line.
func (b *block) begin(table string) {
	b.object.sources[table] = b.from.Name
	b.joinLine(b.object, b.from.Name)
}

// objects returns a block with the objects of an entity and those below it. wide says whether it has the columns of all of them.
func (c *compiler) objects(e *entity, wide bool) *block {
	b := c.blockOf(nil, e, e.home(e.name))
	b.begin(e.home(e.name))
	if wide && e.root.Apart {
		for _, name := range e.family[1:] {
			b.joinTable(b.object, name, b.from.Name, true)
		}
	}
	b.conditions = c.seen(b.object)
	if !e.root.Apart && e.name != e.root.Name {
		b.conditions = append(b.conditions, b.object.typeIn(e))
	}
	return b
}

// seen returns the conditions for an object to be seen.
func (c *compiler) seen(t *thing) []api.Expr {
	var l []api.Expr
	if t.entity.root.Tenant && c.tenant != 0 {
		l = append(l, equal(t.head("tenant"), literal(number(c.tenant))))
	}
	if t.entity.root.Soft && !c.gone {
		l = append(l, operation(api.OpNull, t.head("gone")))
	}
	return l
}

// joinLine joins the tables of the line of an object that are not there yet, by the key of a source that is.
func (b *block) joinLine(t *thing, by string) {
	if !t.entity.root.Apart {
		return
	}
	for _, name := range t.entity.line {
		if t.sources[name] == "" {
			b.joinTable(t, name, by, t.optional)
		}
	}
}

// joinTable joins a table of the family of an object by the key of a source.
func (b *block) joinTable(t *thing, table, by string, left bool) {
	x := b.source(table)
	t.sources[table] = x.Name
	on := mapped(scoped(t.entity.root.Tenant, "id"), func(name string) api.Expr { return equal(column(x.Name, name), column(by, name)) })
	b.joins = append(b.joins, api.Join{Left: left, Source: x, On: all(on)})
}

// step returns the object to which a RelOne of an object of the block leads, if it is seen.
func (b *block) step(t *thing, one member) *thing {
	if to := t.ones[one.slot.Name]; to != nil {
		return to
	}
	to := newThing(b.entity(one.slot.To), true)
	t.ones[one.slot.Name] = to
	b.joinRoot(to, t.column(one.slot, true), t.head("tenant"))
	return to
}

// joinRoot joins the tables in which an object stands that is seen, that of the root by its id, and its tenant, if its family has one.
func (b *block) joinRoot(t *thing, id, tenant api.Expr) {
	x := b.source(t.entity.root.Name)
	t.sources[x.Table] = x.Name
	on := []api.Expr{equal(t.head("id"), id)}
	if t.entity.root.Tenant {
		on = append(on, equal(t.head("tenant"), tenant))
	}
	on = append(on, b.seen(t)...)
	b.joins = append(b.joins, api.Join{Left: t.optional, Source: x, On: all(on)})
	b.joinLine(t, x.Name)
}

// steps is step for several RelOnes, one after another.
func (b *block) steps(t *thing, ones []member) *thing {
	for _, one := range ones {
		t = b.step(t, one)
	}
	return t
}

// value returns the value of a path that is read from the object of the block.
func (b *block) value(e *entity, path string) api.Expr {
	r, _ := b.toValue(e, path)
	t := b.steps(b.object, r.ones)
	switch r.end.what {
	case isValue:
		return t.column(r.end.slot, false)
	case isOne:
		if root := b.entity(r.end.slot.To).root; root.Soft && !b.gone {
			// The reference counts only if its object is seen.
			return b.step(t, r.end).head("id")
		}
		return t.column(r.end.slot, true)
	case isFormula:
		return t.formula(r.end)
	}
	return t.head(r.end.slot.Name)
}

// formula returns the value of a computed field of an object.
func (t *thing) formula(x member) api.Expr {
	var made func(e api.Expr) api.Expr
	made = func(e api.Expr) api.Expr {
		if e.Kind == api.XColumn {
			return t.column(t.entity.members[e.Name].slot, false)
		}
		return rebuilt(e, made)
	}
	e := made(x.formula)
	if t.optional {
		// Of nulls, too, a formula can make a value.
		e = api.Expr{Kind: api.XCase, Args: []api.Expr{operation(api.OpNull, t.head("id")), literal(api.Value{}), e}}
	}
	return e
}

// row returns the items of an answer with these columns.
func (b *block) row(columns []api.Slot) []api.Item {
	t := b.object
	e := t.entity
	head := func(there bool, name string, otherwise api.Value) api.Expr {
		if there {
			return t.head(name)
		}
		return literal(otherwise)
	}
	l := []api.Expr{
		head(b.hasType(e), "type", textOf(e.name)),
		head(e.root.Tenant, "tenant", api.Value{}),
		t.head("id"),
		head(e.root.Version, "version", api.Value{}),
		head(e.root.Soft, "gone", api.Value{}),
	}
	for _, slot := range columns {
		l = append(l, t.column(slot, slot.Kind == 0))
	}
	var items []api.Item
	for i, x := range l {
		items = append(items, api.Item{Name: "c" + strconv.Itoa(i), Expr: x})
	}
	return items
}

// hasType reports whether the table of the root of an entity has a type: whether the family has more than one entity.
func (c *catalog) hasType(e *entity) bool { return len(c.entity(e.root.Name).family) > 1 }
