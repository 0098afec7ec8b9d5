package query_test

import (
	"cmp"
	"math/rand"
	"slices"
	"strconv"
	"testing"

	"dumbwaiter/api"
	"dumbwaiter/schema"
)

// maker makes models, worlds, conditions, finds and totals at random.
type maker struct {
	*rand.Rand
	m      api.Model
	params []api.Value // of the kinds Bool to Moment, or null
}

// paramKinds are the kinds of the params of a maker.
var paramKinds = []int{api.Bool, api.Int, api.Text, api.Moment}

// makerOf is a maker with a model.
func makerOf(seed int) *maker {
	r := &maker{Rand: rand.New(rand.NewSource(int64(seed)))}
	for {
		if r.m = r.model(); schema.Check(r.m) == api.OK {
			break
		}
	}
	for _, kind := range paramKinds {
		r.params = append(r.params, r.valueOrNull(kind))
	}
	return r
}

// randomly runs a test with several makers, with fewer of them if it must be short.
func randomly(t *testing.T, times int, f func(t *testing.T, r *maker)) {
	t.Helper()
	if testing.Short() {
		times /= 5
	}
	for seed := range times {
		f(t, makerOf(seed))
		if t.Failed() {
			t.Fatal("seed", seed)
		}
	}
}

func (r *maker) chance(n int) bool { return r.Intn(n) == 0 }

// value makes a value of a kind.
func (r *maker) value(kind int) api.Value {
	switch kind {
	case api.Bool:
		return boolean(r.Intn(2))
	case api.Int:
		return integer([]int{0, 1, 2, 3, 4, -1, api.MaxInt}[r.Intn(7)])
	case api.Text:
		return text([]string{"", "a", "b", "ab", "it's", "a%"}[r.Intn(6)])
	}
	return moment([]int{0, 60, 1794906300, api.MaxMoment}[r.Intn(4)])
}

// valueOrNull makes a value of a kind, or null.
func (r *maker) valueOrNull(kind int) api.Value {
	if r.chance(4) {
		return null
	}
	return r.value(kind)
}

// model makes a model that is often right.
func (r *maker) model() api.Model {
	m := api.Model{Embeds: []api.Embed{{Name: "em", Fields: []api.Field{{Name: "x", Kind: api.Int, Null: r.chance(2)}, {Name: "y", Kind: api.Text, Null: true}}}}}
	names := []string{"a", "b", "c", "d", "e"}
	r.Shuffle(len(names), func(i, k int) { names[i], names[k] = names[k], names[i] })
	for i := range 1 + r.Intn(5) {
		e := api.Entity{Name: names[i]}
		if i > 0 && r.chance(2) {
			e.Parent = names[r.Intn(i)]
		} else {
			e.Apart, e.Version, e.Soft, e.Tenant = r.chance(2), r.chance(2), r.chance(2), r.chance(2)
		}
		r.fields(&e, e.Name)
		m.Entities = append(m.Entities, e)
	}
	for i := range m.Entities {
		r.relations(&m, i)
	}
	return m
}

// fields makes fields of an entity whose names begin with a letter.
func (r *maker) fields(e *api.Entity, letter string) {
	var leaves []leaf
	for k := range r.Intn(4) {
		f := api.Field{Name: letter + strconv.Itoa(k), Kind: 1 + r.Intn(4), Null: r.chance(2)}
		if r.chance(6) {
			f = api.Field{Name: f.Name, Of: "em"}
			leaves = append(leaves, leaf{f.Name + ".x", api.Int}, leaf{f.Name + ".y", api.Text})
		} else {
			leaves = append(leaves, leaf{f.Name, f.Kind})
		}
		e.Fields = append(e.Fields, f)
	}
	for k := range r.Intn(3) {
		kind := 1 + r.Intn(4)
		formula := r.scalar(kind, 2, leaves)
		e.Fields = append(e.Fields, api.Field{Name: letter + "f" + strconv.Itoa(k), Kind: kind, Formula: []api.Expr{formula}})
	}
}

// relations makes relations of entity number i, with those back.
func (r *maker) relations(m *api.Model, i int) {
	for k := range r.Intn(4) {
		e := &m.Entities[i]
		name := "r" + e.Name + strconv.Itoa(k)
		other := r.Intn(len(m.Entities))
		to := &m.Entities[other]
		if r.chance(2) {
			one := api.Relation{Name: name, Kind: api.RelOne, To: to.Name, OnDelete: api.Refuse, Need: r.chance(4)}
			e.Relations = append(e.Relations, one)
			// Entities below have such relations, too.
			place := r.Intn(len(m.Entities))
			from := m.Entities[r.Intn(len(m.Entities))].Name
			m.Entities[place].Relations = append(m.Entities[place].Relations, api.Relation{Name: "m" + name, Kind: api.RelMany, To: from, Back: name})
			if r.chance(3) {
				m.Entities[place].Relations[len(m.Entities[place].Relations)-1].To = e.Name
			}
			continue
		}
		pairs := api.Relation{Name: name, Kind: api.RelPairs, To: to.Name}
		if other == i && r.chance(2) {
			pairs.Back = name
		} else if r.chance(2) {
			pairs.Back = "b" + name
			to.Relations = append(to.Relations, api.Relation{Name: pairs.Back, Kind: api.RelPairs, To: e.Name, Back: name})
		}
		e = &m.Entities[i]
		e.Relations = append(e.Relations, pairs)
	}
}

// place returns the place of an entity of a model.
func place(m api.Model, entity string) int {
	return slices.IndexFunc(m.Entities, func(e api.Entity) bool { return e.Name == entity })
}

// rootOf returns the root of an entity.
func rootOf(m api.Model, entity string) api.Entity {
	e := m.Entities[place(m, entity)]
	if e.Parent == "" {
		return e
	}
	return rootOf(m, e.Parent)
}

// isOf reports whether an entity is another one, or below it.
func isOf(m api.Model, entity, other string) bool {
	return entity == other || entity != "" && isOf(m, m.Entities[place(m, entity)].Parent, other)
}

// world makes a right world, empty if none is found soon.
func (r *maker) world(most int) api.World {
	for range 50 {
		if w := r.guessWorld(most); schema.CheckWorld(r.m, w) == api.OK {
			return w
		}
	}
	return api.World{}
}

// guessWorld makes a world that is often right, with at most so many objects of an entity.
func (r *maker) guessWorld(most int) api.World {
	var w api.World
	for _, e := range r.m.Entities {
		root := rootOf(r.m, e.Name)
		for range r.Intn(most + 1) {
			o := api.Object{Entity: e.Name, ID: 1 + r.Intn(most+3)}
			if root.Tenant {
				o.Tenant = 1 + r.Intn(2)
			}
			if root.Version {
				o.Version = 1 + r.Intn(3)
			}
			if root.Soft && r.chance(4) {
				o.Gone = r.value(api.Moment)
			}
			taken := func(x api.Object) bool {
				return rootOf(r.m, x.Entity).Name == root.Name && x.Tenant == o.Tenant && x.ID == o.ID
			}
			if !slices.ContainsFunc(w.Objects, taken) {
				w.Objects = append(w.Objects, o)
			}
		}
	}
	slices.SortFunc(w.Objects, func(a, b api.Object) int {
		return cmp.Or(cmp.Compare(place(r.m, rootOf(r.m, a.Entity).Name), place(r.m, rootOf(r.m, b.Entity).Name)), cmp.Compare(a.Tenant, b.Tenant), cmp.Compare(a.ID, b.ID))
	})
	for i := range w.Objects {
		r.fill(w, &w.Objects[i])
	}
	r.pairs(&w)
	return w
}

// fill gives an object values and references.
func (r *maker) fill(w api.World, o *api.Object) {
	slots, _ := schema.Slots(r.m, o.Entity)
	for _, s := range slots {
		switch {
		case s.Kind == 0 && s.Null && r.chance(4):
			o.Ones = append(o.Ones, 0)
		case s.Kind == 0:
			o.Ones = append(o.Ones, r.target(w, s.To, o.Tenant))
		case s.Null && r.chance(3):
			o.Values = append(o.Values, null)
		default:
			o.Values = append(o.Values, r.value(s.Kind))
		}
	}
}

// target is the id of an object of an entity to which something of a tenant can refer, 0 if there is none.
func (r *maker) target(w api.World, entity string, tenant int) int {
	var l []int
	for _, o := range w.Objects {
		if isOf(r.m, o.Entity, entity) && (o.Tenant == 0 || o.Tenant == tenant) {
			l = append(l, o.ID)
		}
	}
	if len(l) == 0 {
		return 0
	}
	return l[r.Intn(len(l))]
}

// pairs makes pairs.
func (r *maker) pairs(w *api.World) {
	for _, e := range r.m.Entities {
		for _, x := range e.Relations {
			owner, name, err := schema.Owner(r.m, e.Name, x.Name)
			if err != api.OK || owner != e.Name || name != x.Name {
				continue
			}
			for range r.Intn(8) {
				p := api.PairOf{Entity: e.Name, Relation: x.Name}
				if rootOf(r.m, e.Name).Tenant {
					p.Tenant = 1 + r.Intn(2)
				}
				p.Left, p.Right = r.target(*w, e.Name, p.Tenant), r.target(*w, x.To, p.Tenant)
				if x.To == e.Name && x.Back == x.Name {
					p.Left, p.Right = min(p.Left, p.Right), max(p.Left, p.Right)
				}
				if p.Left > 0 && p.Right > 0 && !slices.Contains(w.Pairs, p) {
					w.Pairs = append(w.Pairs, p)
				}
			}
		}
	}
	slices.SortFunc(w.Pairs, func(a, b api.PairOf) int {
		return cmp.Or(cmp.Compare(a.Entity, b.Entity), cmp.Compare(a.Relation, b.Relation), cmp.Compare(a.Tenant, b.Tenant), cmp.Compare(a.Left, b.Left), cmp.Compare(a.Right, b.Right))
	})
}

// leaf is what can be named, with its kind.
type leaf struct {
	name string
	kind int
}

// at is where a condition stands: an entity, and the one of the next outer condition.
type at struct {
	entity, outer string
}

// scalar makes an expression of a kind over leaves.
func (r *maker) scalar(kind, depth int, leaves []leaf) api.Expr {
	return r.expr(kind, depth, func(kind int) api.Expr {
		l := slices.DeleteFunc(slices.Clone(leaves), func(x leaf) bool { return x.kind != kind })
		if len(l) == 0 || r.chance(4) {
			return lit(r.valueOrNull(kind))
		}
		return col("", l[r.Intn(len(l))].name)
	})
}

// expr makes an expression of a kind, of which other makes the leaves.
func (r *maker) expr(kind, depth int, other func(kind int) api.Expr) api.Expr {
	if depth == 0 || r.chance(3) {
		return other(kind)
	}
	sub := func(kind int) api.Expr { return r.expr(kind, depth-1, other) }
	any := 1 + r.Intn(4)
	switch r.Intn(6) {
	case 0:
		return api.Expr{Kind: api.XCase, Args: []api.Expr{sub(api.Bool), sub(kind), sub(kind)}}
	case 1:
		return op(api.OpCoalesce, sub(kind), sub(kind))
	}
	switch kind {
	case api.Bool:
		ops := []int{api.OpEqual, api.OpUnequal, api.OpLess, api.OpAtMost, api.OpGreater, api.OpAtLeast, api.OpSame}
		switch r.Intn(6) {
		case 0:
			return op(api.OpNot, sub(api.Bool))
		case 1:
			return op(api.OpAnd+r.Intn(2), sub(api.Bool), sub(api.Bool))
		case 2:
			return op(api.OpNull, sub(any))
		case 3:
			return api.Expr{Kind: api.XIn, Args: []api.Expr{sub(any), sub(any), sub(any)}}
		}
		return op(ops[r.Intn(len(ops))], sub(any), sub(any))
	case api.Int:
		if r.chance(3) {
			return op(api.OpLength, sub(api.Text))
		}
		return op([]int{api.OpAdd, api.OpSub, api.OpMul, api.OpMod}[r.Intn(4)], sub(api.Int), sub(api.Int))
	case api.Text:
		return op(api.OpConcat, sub(api.Text), sub(api.Text))
	}
	return op(api.OpAdd, sub(api.Moment), sub(api.Int))
}

// condition makes a condition of a kind.
func (r *maker) condition(kind, depth int, x at) api.Expr {
	return r.expr(kind, depth, func(kind int) api.Expr {
		n := r.Intn(8)
		switch {
		case n == 0:
			return api.Expr{Kind: api.XParam, N: slices.Index(paramKinds, kind)}
		case n == 1:
			return lit(r.valueOrNull(kind))
		case n < 5 && (kind == api.Bool || kind == api.Int):
			return r.multi(kind, depth, x)
		}
		return r.column(kind, x)
	})
}

// column makes an XColumn of a kind, or a value if there is no path.
func (r *maker) column(kind int, x at) api.Expr {
	source, entity := "", x.entity
	if x.outer != "" && r.chance(3) {
		source, entity = "up", x.outer
	}
	for range 6 {
		if path := r.path(entity, kind, 3); path != "" {
			return col(source, path)
		}
	}
	return lit(r.value(kind))
}

// membersOf are the relations of an entity of the kind one, and then those of other kinds.
func (r *maker) membersOf(entity string) (ones, others []api.Relation) {
	l, _ := schema.Relations(r.m, entity)
	for _, x := range l {
		if x.Kind == api.RelOne {
			ones = append(ones, x)
		} else {
			others = append(others, x)
		}
	}
	return ones, others
}

// path makes a path to a value of a kind, over at most so many RelOnes, empty if none was found.
func (r *maker) path(entity string, kind, most int) string {
	ones, _ := r.membersOf(entity)
	if len(ones) > 0 && most > 0 && r.chance(2) {
		one := ones[r.Intn(len(ones))]
		if rest := r.path(one.To, kind, most-1); rest != "" {
			return one.Name + "." + rest
		}
	}
	l := r.ends(entity, kind)
	if len(l) == 0 {
		return ""
	}
	return l[r.Intn(len(l))]
}

// ends are the paths of a kind without RelOnes ahead of the end.
func (r *maker) ends(entity string, kind int) []string {
	var l []string
	slots, _ := schema.Slots(r.m, entity)
	for _, s := range slots {
		if s.Kind == kind || s.Kind == 0 && kind == api.Int {
			l = append(l, s.Name)
		}
	}
	for e := entity; e != ""; e = r.m.Entities[place(r.m, e)].Parent {
		for _, f := range r.m.Entities[place(r.m, e)].Fields {
			if len(f.Formula) > 0 && f.Kind == kind {
				l = append(l, f.Name)
			}
		}
	}
	root := rootOf(r.m, entity)
	if kind == api.Moment && root.Soft {
		l = append(l, "gone")
	}
	if kind == api.Int {
		l = append(l, "id")
		if root.Tenant {
			l = append(l, "tenant")
		}
		if root.Version {
			l = append(l, "version")
		}
	}
	return l
}

// onesPath makes a path of RelOnes, maybe an empty one, and the entity to which it leads.
func (r *maker) onesPath(entity string, most int) (string, string) {
	ones, _ := r.membersOf(entity)
	if len(ones) == 0 || most == 0 || !r.chance(3) {
		return "", entity
	}
	one := ones[r.Intn(len(ones))]
	rest, to := r.onesPath(one.To, most-1)
	if rest == "" {
		return one.Name, to
	}
	return one.Name + "." + rest, to
}

// multi makes an XSome, XEvery, XMany or XIs of a kind, or an XColumn.
func (r *maker) multi(kind, depth int, x at) api.Expr {
	path, entity := r.onesPath(x.entity, 3)
	if kind == api.Bool && r.chance(4) {
		return api.Expr{Kind: api.XIs, Source: path, Name: r.m.Entities[r.Intn(len(r.m.Entities))].Name}
	}
	_, others := r.membersOf(entity)
	if len(others) == 0 {
		return r.column(kind, x)
	}
	other := others[r.Intn(len(others))]
	name := other.Name
	if path != "" {
		name = path + "." + name
	}
	e := multi(api.XMany, name)
	if kind == api.Bool {
		e.Kind = api.XSome + r.Intn(2)
	}
	if e.Kind == api.XEvery || !r.chance(4) {
		e.Args = []api.Expr{r.condition(api.Bool, max(depth-1, 1), at{other.To, x.entity})}
	}
	return e
}

// find makes a find, which can be too heavy.
func (r *maker) find() api.Find {
	entity := r.m.Entities[r.Intn(len(r.m.Entities))].Name
	f := api.Find{Entity: entity, Limit: -1, Gone: r.chance(3), Tenant: r.Intn(3)}
	if !r.chance(5) {
		f.Where = []api.Expr{r.condition(api.Bool, 1+r.Intn(3), at{entity, ""})}
	}
	for range r.Intn(4) {
		if path := r.path(entity, 1+r.Intn(4), 4); path != "" {
			f.Order = append(f.Order, api.By{Path: path, Desc: r.chance(2), Last: r.chance(2)})
		}
	}
	if r.chance(4) {
		f.Limit = r.Intn(4)
	}
	if r.chance(4) {
		f.Offset = r.Intn(3)
	}
	return f
}

// total makes a total, which can be too heavy.
func (r *maker) total() api.Total {
	entity := r.m.Entities[r.Intn(len(r.m.Entities))].Name
	t := api.Total{Entity: entity, Gone: r.chance(3), Tenant: r.Intn(3)}
	if r.chance(2) {
		t.Where = []api.Expr{r.condition(api.Bool, 1+r.Intn(3), at{entity, ""})}
	}
	var leaves []leaf
	for range r.Intn(4) {
		kind := 1 + r.Intn(4)
		if path := r.path(entity, kind, 4); path != "" {
			leaves = append(leaves, leaf{"group" + strconv.Itoa(len(t.Group)), kind})
			t.Group = append(t.Group, path)
		}
	}
	for i := range 1 + r.Intn(4) {
		a := api.Agg{Op: api.AggRows}
		kind := 1 + r.Intn(4)
		if path := r.path(entity, kind, 3); path != "" && !r.chance(4) {
			a = api.Agg{Op: api.AggCount + r.Intn(4), Path: path, Distinct: r.chance(2)}
			if a.Op == api.AggSum && kind != api.Int {
				a.Op = api.AggMost
			}
		}
		if a.Op <= api.AggSum {
			kind = api.Int
		}
		leaves = append(leaves, leaf{"agg" + strconv.Itoa(i), kind})
		t.Aggs = append(t.Aggs, a)
	}
	if r.chance(3) {
		t.Having = []api.Expr{r.scalar(api.Bool, 3, leaves)}
	}
	return t
}
