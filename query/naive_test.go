package query_test

import (
	"cmp"
	"slices"
	"strings"

	"dumbwaiter/api"
	"dumbwaiter/schema"
	"dumbwaiter/value"
)

// naive says what paths, conditions, finds and totals mean, straight from the document, without any index.
type naive struct {
	m      api.Model
	w      api.World
	params []api.Value
}

// naiveSeen is the world that is seen.
func naiveSeen(m api.Model, w api.World, tenant int, gone bool) api.World {
	n := naive{m: m, w: clone(w)}
	hidden := func(o *api.Object) bool { return o != nil && o.Gone.Kind != api.Null && !gone }
	var seen api.World
	for _, o := range clone(w).Objects {
		if tenant != 0 && o.Tenant != 0 && o.Tenant != tenant || hidden(&o) {
			continue
		}
		for i, s := range n.ones(o.Entity) {
			if hidden(n.find(s.To, o.Tenant, o.Ones[i])) {
				o.Ones[i] = 0
			}
		}
		seen.Objects = append(seen.Objects, o)
	}
	for _, p := range w.Pairs {
		right := n.relation(p.Entity, p.Relation).To
		if (tenant == 0 || p.Tenant == 0 || p.Tenant == tenant) && !hidden(n.find(p.Entity, p.Tenant, p.Left)) && !hidden(n.find(right, p.Tenant, p.Right)) {
			seen.Pairs = append(seen.Pairs, p)
		}
	}
	return seen
}

// ones are the references of an entity.
func (n naive) ones(entity string) []api.Slot {
	slots, _ := schema.Slots(n.m, entity)
	return slices.DeleteFunc(slots, func(s api.Slot) bool { return s.Kind != 0 })
}

// relation is the relation of an entity with a name.
func (n naive) relation(entity, name string) api.Relation {
	for ; entity != ""; entity = n.m.Entities[place(n.m, entity)].Parent {
		for _, x := range n.m.Entities[place(n.m, entity)].Relations {
			if x.Name == name {
				return x
			}
		}
	}
	return api.Relation{}
}

// find is the object of an entity or below it to which something of a tenant refers.
func (n naive) find(entity string, tenant, id int) *api.Object {
	for i, o := range n.w.Objects {
		if isOf(n.m, o.Entity, entity) && o.ID == id && (o.Tenant == 0 || o.Tenant == tenant) {
			return &n.w.Objects[i]
		}
	}
	return nil
}

// one is the object to which a RelOne leads.
func (n naive) one(o *api.Object, name string) *api.Object {
	if o == nil {
		return nil
	}
	for i, s := range n.ones(o.Entity) {
		if s.Name == name {
			return n.find(s.To, o.Tenant, o.Ones[i])
		}
	}
	return nil
}

// related are the objects of a relation of an object.
func (n naive) related(o *api.Object, name string) []*api.Object {
	x := n.relation(o.Entity, name)
	var l []*api.Object
	for i := range n.w.Objects {
		other := &n.w.Objects[i]
		var is bool
		switch x.Kind {
		case api.RelOne:
			is = n.one(o, name) == other
		case api.RelMany:
			is = isOf(n.m, other.Entity, x.To) && n.one(other, x.Back) == o
		case api.RelPairs:
			is = n.arePaired(o, other, x)
		}
		if is {
			l = append(l, other)
		}
	}
	slices.SortFunc(l, func(a, b *api.Object) int { return cmp.Or(cmp.Compare(a.Tenant, b.Tenant), cmp.Compare(a.ID, b.ID)) })
	return l
}

// arePaired reports whether an object has another one by a RelPairs.
func (n naive) arePaired(o, other *api.Object, x api.Relation) bool {
	having := o.Entity
	for !slices.ContainsFunc(n.m.Entities[place(n.m, having)].Relations, func(y api.Relation) bool { return y.Name == x.Name }) {
		having = n.m.Entities[place(n.m, having)].Parent
	}
	owner, name, _ := schema.Owner(n.m, having, x.Name)
	to := n.relation(owner, name).To
	for _, p := range n.w.Pairs {
		if p.Entity != owner || p.Relation != name {
			continue
		}
		left, right := n.find(owner, p.Tenant, p.Left), n.find(to, p.Tenant, p.Right)
		own := owner == having && name == x.Name
		symmetric := own && x.To == having && x.Back == x.Name
		if own && left == o && right == other || (!own || symmetric) && right == o && left == other {
			return true
		}
	}
	return false
}

// look is the value of a path for an object.
func (n naive) look(o *api.Object, path string) api.Value {
	name, rest, more := strings.Cut(path, ".")
	if o == nil {
		return null
	}
	if more && n.relation(o.Entity, name).Kind == api.RelOne {
		return n.look(n.one(o, name), rest)
	}
	switch path {
	case "id":
		return integer(o.ID)
	case "tenant":
		return integer(o.Tenant)
	case "version":
		return integer(o.Version)
	case "gone":
		return o.Gone
	}
	formulas, _ := schema.Formulas(n.m, o.Entity)
	for _, f := range formulas {
		if f.Name == path {
			cells, values := n.stored(o)
			v, err := value.Eval(f.Expr, cells, values, nil)
			if err != api.OK {
				panic(err)
			}
			return v
		}
	}
	v, _ := n.slot(o, path)
	return v
}

// slot is what an object has for a slot, if it has it.
func (n naive) slot(o *api.Object, name string) (api.Value, bool) {
	slots, _ := schema.Slots(n.m, o.Entity)
	for i, s := range slots {
		switch {
		case s.Name != name:
		case s.Kind != 0:
			return o.Values[i], true
		case o.Ones[i-len(o.Values)] == 0:
			return null, true
		default:
			return integer(o.Ones[i-len(o.Values)]), true
		}
	}
	return null, false
}

// stored are the stored fields of an object.
func (n naive) stored(o *api.Object) ([]api.Cell, []api.Value) {
	var cells []api.Cell
	slots, _ := schema.Slots(n.m, o.Entity)
	for _, s := range slots {
		if s.Kind != 0 {
			cells = append(cells, api.Cell{Name: s.Name, Kind: s.Kind})
		}
	}
	return cells, o.Values
}

// ahead follows all names of a path but the last one, and returns that.
func (n naive) ahead(o *api.Object, path string) (*api.Object, string) {
	for {
		name, rest, more := strings.Cut(path, ".")
		if !more {
			return o, name
		}
		o, path = n.one(o, name), rest
	}
}

// eval is the value of a condition for an object within another one.
func (n naive) eval(e api.Expr, o, outer *api.Object) api.Value {
	switch e.Kind {
	case api.XParam:
		return n.params[e.N]
	case api.XColumn:
		if e.Source == "up" {
			return n.look(outer, e.Name)
		}
		return n.look(o, e.Name)
	case api.XIs:
		if e.Source != "" {
			var name string
			o, name = n.ahead(o, e.Source)
			o = n.one(o, name)
		}
		return value.Bool(o != nil && isOf(n.m, o.Entity, e.Name))
	case api.XSome, api.XEvery, api.XMany:
		return n.multi(e, o)
	}
	part := e
	part.Args = nil
	for _, arg := range e.Args {
		part.Args = append(part.Args, lit(n.eval(arg, o, outer)))
	}
	v, err := value.Eval(part, nil, nil, nil)
	if err != api.OK {
		panic(err)
	}
	return v
}

// multi is the value of an XSome, XEvery or XMany.
func (n naive) multi(e api.Expr, o *api.Object) api.Value {
	from, name := n.ahead(o, e.Name)
	var l []*api.Object
	if from != nil {
		l = n.related(from, name)
	}
	count := 0
	for _, x := range l {
		if len(e.Args) == 0 || n.eval(e.Args[0], x, o) == boolean(1) {
			count++
		}
	}
	switch e.Kind {
	case api.XSome:
		return value.Bool(count > 0)
	case api.XEvery:
		return value.Bool(count == len(l))
	}
	return integer(count)
}

// chosen are the objects of an entity for which a condition is true, sorted by tenant and id.
func (n naive) chosen(entity string, where []api.Expr) []*api.Object {
	var l []*api.Object
	for i := range n.w.Objects {
		o := &n.w.Objects[i]
		if isOf(n.m, o.Entity, entity) && (len(where) == 0 || n.eval(where[0], o, nil) == boolean(1)) {
			l = append(l, o)
		}
	}
	return l
}

// objects are the objects of a find in the world that is seen.
func (n naive) objects(f api.Find) []*api.Object {
	l := n.chosen(f.Entity, f.Where)
	slices.SortFunc(l, func(a, b *api.Object) int {
		for _, o := range f.Order {
			x, y := n.look(a, o.Path), n.look(b, o.Path)
			c := value.Compare(x, y)
			switch {
			case c == 0:
				continue
			case x == null && o.Last || y == null && !o.Last:
				return 1
			case x == null || y == null:
				return -1
			case o.Desc:
				return -c
			}
			return c
		}
		return cmp.Or(cmp.Compare(a.Tenant, b.Tenant), cmp.Compare(a.ID, b.ID))
	})
	l = l[min(f.Offset, len(l)):]
	if f.Limit >= 0 && f.Limit < len(l) {
		l = l[:f.Limit]
	}
	return l
}

// naiveAnswer is the answer of a find in a world.
func naiveAnswer(m api.Model, w api.World, f api.Find, params []api.Value) [][]api.Value {
	n := naive{m, naiveSeen(m, w, f.Tenant, f.Gone), params}
	all := naive{m: m, w: w}
	var rows [][]api.Value
	for _, o := range n.objects(f) {
		o = all.find(o.Entity, o.Tenant, o.ID)
		r := row(text(o.Entity), null, integer(o.ID), null, o.Gone)
		if o.Tenant != 0 {
			r[1] = integer(o.Tenant)
		}
		if o.Version != 0 {
			r[3] = integer(o.Version)
		}
		for _, s := range naiveColumns(m, f.Entity) {
			v, _ := all.slot(o, s.Name)
			r = append(r, v)
		}
		rows = append(rows, r)
	}
	return rows
}

// naiveColumns are the slots of an answer.
func naiveColumns(m api.Model, entity string) []api.Slot {
	l, _ := schema.Slots(m, entity)
	for _, e := range m.Entities {
		more, _ := schema.Slots(m, e.Name)
		for _, s := range more {
			if isOf(m, e.Name, entity) && !slices.ContainsFunc(l, func(x api.Slot) bool { return x.Name == s.Name && x.Entity == s.Entity }) {
				l = append(l, s)
			}
		}
	}
	return l
}

// naiveTotals are the rows of a total in a world.
func naiveTotals(m api.Model, w api.World, t api.Total, params []api.Value) [][]api.Value {
	n := naive{m, naiveSeen(m, w, t.Tenant, t.Gone), params}
	type group struct {
		values  []api.Value
		objects []*api.Object
	}
	var groups []*group
	if len(t.Group) == 0 {
		groups = []*group{{}}
	}
	for _, o := range n.chosen(t.Entity, t.Where) {
		var values []api.Value
		for _, path := range t.Group {
			values = append(values, n.look(o, path))
		}
		i := slices.IndexFunc(groups, func(g *group) bool { return slices.Equal(g.values, values) })
		if i < 0 {
			i = len(groups)
			groups = append(groups, &group{values: values})
		}
		groups[i].objects = append(groups[i].objects, o)
	}
	slices.SortFunc(groups, func(a, b *group) int { return value.CompareLists(a.values, b.values) })
	var rows [][]api.Value
	for _, g := range groups {
		r := slices.Clone(g.values)
		for _, a := range t.Aggs {
			r = append(r, n.aggregate(a, g.objects))
		}
		if len(t.Having) == 0 || havingOf(t.Having[0], len(t.Group), r, params) == boolean(1) {
			rows = append(rows, r)
		}
	}
	return rows
}

// havingOf is the value of Having for a row.
func havingOf(e api.Expr, groups int, r, params []api.Value) api.Value {
	n := naive{params: params}
	var bound func(e api.Expr) api.Expr
	bound = func(e api.Expr) api.Expr {
		if e.Kind == api.XColumn {
			i := int(e.Name[len(e.Name)-1] - '0')
			if strings.HasPrefix(e.Name, "agg") {
				i += groups
			}
			return lit(r[i])
		}
		e = clone(e)
		for i, arg := range e.Args {
			e.Args[i] = bound(arg)
		}
		return e
	}
	return n.eval(bound(e), nil, nil)
}

// aggregate is an aggregate over objects.
func (n naive) aggregate(a api.Agg, objects []*api.Object) api.Value {
	if a.Op == api.AggRows {
		return integer(len(objects))
	}
	var l []api.Value
	for _, o := range objects {
		if v := n.look(o, a.Path); v != null && !(a.Distinct && slices.Contains(l, v)) {
			l = append(l, v)
		}
	}
	if a.Op == api.AggCount {
		return integer(len(l))
	}
	if len(l) == 0 {
		return null
	}
	if a.Op == api.AggLeast {
		return slices.MinFunc(l, value.Compare)
	}
	if a.Op == api.AggMost {
		return slices.MaxFunc(l, value.Compare)
	}
	sum := 0
	for _, v := range l {
		sum += v.N
	}
	if sum < -api.MaxInt || sum > api.MaxInt {
		return null
	}
	return integer(sum)
}
