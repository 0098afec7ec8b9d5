package session_test

import (
	"cmp"
	"maps"
	"slices"
	"strings"

	"dumbwaiter/api"
	"dumbwaiter/query"
	"dumbwaiter/schema"
	"dumbwaiter/value"
)

// thing is an object of a naive session: references are pointers.
type thing struct {
	entity              string
	tenant, id, version int
	gone                api.Value
	values              []api.Value
	ones                []*thing
	stored              *row0 // what stands in the tables of the transaction; nil: it is not there
	handle              int
	state               int // 0: it has no handle; StateClean also for StateChanged
	held                bool
	find                []*thing // the last find that has returned it
}

// row0 is what stands in the tables of a thing.
type row0 struct {
	version int
	gone    api.Value
	values  []api.Value
	ones    []*thing
}

// couple is a pair.
type couple struct {
	entity, relation string
	left, right      *thing
}

// naive plays acts as the document says, over one list of all objects.
type naive struct {
	m           api.Model
	tenant, now int
	way         int
	hooks       []api.Hook
	kept        api.World // behind the last commit
	things      []*thing  // in the tables, or made
	handles     []*thing
	pairs       map[couple]bool // in the tables
	linked      map[couple]bool // what was linked and unlinked
	slotsOf     map[string][]api.Slot
	relationsOf map[string]map[string]api.Relation
	linesOf     map[string][]string
	statements  int
	open        bool // a transaction has begun
	loaded      map[nameOf]bool
	lists       map[keptList]bool
}

// nameOf names an object.
type nameOf struct {
	root       string
	tenant, id int
}

// keptList names a list.
type keptList struct {
	owner    *thing
	relation string
}

func newNaive(m api.Model, w api.World, tenant, now, way int, hooks []api.Hook) *naive {
	n := &naive{m: m, tenant: tenant, now: now, way: way, hooks: hooks, kept: w}
	n.slotsOf, n.relationsOf, n.linesOf = map[string][]api.Slot{}, map[string]map[string]api.Relation{}, map[string][]string{}
	for _, e := range m.Entities {
		n.slotsOf[e.Name], _ = schema.Slots(m, e.Name)
		l, _ := schema.Relations(m, e.Name)
		n.relationsOf[e.Name] = map[string]api.Relation{}
		for _, r := range l {
			n.relationsOf[e.Name][r.Name] = r
		}
		n.linesOf[e.Name] = append(slices.Clone(n.linesOf[e.Parent]), e.Name)
	}
	n.read(w)
	return n
}

func (n *naive) count() int { return len(n.handles) }

func (n *naive) stateOf(h int) int {
	if h < 1 || h > len(n.handles) {
		return 0
	}
	return n.handles[h-1].stateNow()
}

func (n *naive) entityOf(h int) string { return n.handles[h-1].entity }

func (n *naive) tenantOf() int { return n.tenant }

// read makes a world what the transaction sees.
func (n *naive) read(w api.World) {
	n.things, n.pairs, n.linked = nil, map[couple]bool{}, map[couple]bool{}
	n.loaded, n.lists, n.open = map[nameOf]bool{}, map[keptList]bool{}, false
	for _, o := range w.Objects {
		n.things = append(n.things, &thing{entity: o.Entity, tenant: o.Tenant, id: o.ID, version: o.Version, gone: o.Gone, values: slices.Clone(o.Values)})
	}
	for i, o := range w.Objects {
		x := n.things[i]
		for k, r := range n.onesOf(o.Entity) {
			var to *thing
			if o.Ones[k] != 0 {
				to = n.at(n.nameFor(r.To, o.Tenant, o.Ones[k]))
			}
			x.ones = append(x.ones, to)
		}
		x.store()
	}
	for _, p := range w.Pairs {
		n.pairs[couple{p.Entity, p.Relation, n.at(n.nameFor(p.Entity, p.Tenant, p.Left)), n.at(n.nameFor(n.relationsOf[p.Entity][p.Relation].To, p.Tenant, p.Right))}] = true
	}
}

// store makes the current state of a thing that of the tables.
func (x *thing) store() {
	x.stored = &row0{x.version, x.gone, slices.Clone(x.values), slices.Clone(x.ones)}
}

func (n *naive) root(entity string) api.Entity {
	i := slices.IndexFunc(n.m.Entities, func(e api.Entity) bool { return e.Name == n.linesOf[entity][0] })
	return n.m.Entities[i]
}

func (n *naive) isOf(x *thing, entity string) bool {
	return slices.Contains(n.linesOf[x.entity], entity)
}

func (n *naive) nameFor(entity string, tenant, id int) nameOf {
	if !n.root(entity).Tenant {
		tenant = 0
	}
	return nameOf{n.root(entity).Name, tenant, id}
}

func (n *naive) name(x *thing) nameOf { return n.nameFor(x.entity, x.tenant, x.id) }

// at returns the thing with a name in the tables.
func (n *naive) at(name nameOf) *thing {
	for _, x := range n.things {
		if x.id != 0 && n.name(x) == name {
			return x
		}
	}
	return nil
}

// onesOf returns the RelOnes of an entity in the order of references.
func (n *naive) onesOf(entity string) []api.Relation {
	var l []api.Relation
	for _, s := range n.slotsOf[entity] {
		if s.Kind == 0 {
			l = append(l, n.relationsOf[entity][s.Name])
		}
	}
	return l
}

// valuesOf returns the slots of an entity that are values.
func (n *naive) valuesOf(entity string) []api.Slot {
	return slices.DeleteFunc(slices.Clone(n.slotsOf[entity]), func(s api.Slot) bool { return s.Kind == 0 })
}

func onePlace(l []api.Relation, name string) int {
	return slices.IndexFunc(l, func(r api.Relation) bool { return r.Name == name })
}

func (x *thing) isChanged() bool {
	return x.stored != nil && x.state == api.StateClean && !(slices.Equal(x.values, x.stored.values) && slices.Equal(x.ones, x.stored.ones))
}

// stateNow returns the state of a thing.
func (x *thing) stateNow() int {
	if x.isChanged() {
		return api.StateChanged
	}
	return x.state
}

// isSeen reports whether the session sees a thing that is in the tables or made.
func (n *naive) isSeen(x *thing) bool {
	if x == nil || x.state == api.StateRemoved || x.state == api.StatePast {
		return false
	}
	return x.gone == null && (n.tenant == 0 || x.tenant == 0 || x.tenant == n.tenant)
}

// world returns the world of the tables.
func (n *naive) world() api.World {
	var w api.World
	for _, x := range n.things {
		if x.stored == nil {
			continue
		}
		o := api.Object{Entity: x.entity, Tenant: x.tenant, ID: x.id, Version: x.stored.version, Gone: x.stored.gone, Values: x.stored.values}
		for _, to := range x.stored.ones {
			o.Ones = append(o.Ones, idOf(to))
		}
		w.Objects = append(w.Objects, clone(o))
	}
	n.sortWorld(&w)
	for p, there := range n.pairs {
		if there {
			w.Pairs = append(w.Pairs, n.pairOf(p))
		}
	}
	slices.SortFunc(w.Pairs, comparePairs)
	return w
}

func idOf(x *thing) int {
	if x == nil {
		return 0
	}
	return x.id
}

func (n *naive) rootPlace(entity string) int {
	return slices.IndexFunc(n.m.Entities, func(e api.Entity) bool { return e.Name == n.linesOf[entity][0] })
}

func (n *naive) sortWorld(w *api.World) {
	slices.SortFunc(w.Objects, func(a, b api.Object) int {
		return cmp.Or(n.rootPlace(a.Entity)-n.rootPlace(b.Entity), a.Tenant-b.Tenant, a.ID-b.ID)
	})
}

func (n *naive) sorted(l []*thing) []*thing {
	slices.SortFunc(l, func(a, b *thing) int {
		return cmp.Or(n.rootPlace(a.entity)-n.rootPlace(b.entity), a.tenant-b.tenant, a.id-b.id)
	})
	return l
}

func comparePairs(a, b api.PairOf) int {
	return cmp.Or(cmp.Compare(a.Entity, b.Entity), cmp.Compare(a.Relation, b.Relation), a.Tenant-b.Tenant, a.Left-b.Left, a.Right-b.Right)
}

func (n *naive) isSymmetric(entity, relation string) bool {
	r := n.relationsOf[entity][relation]
	return r.To == entity && r.Back == relation
}

// pairOf returns a pair as it stands in a world.
func (n *naive) pairOf(p couple) api.PairOf {
	q := api.PairOf{Entity: p.entity, Relation: p.relation, Tenant: p.left.tenant, Left: p.left.id, Right: p.right.id}
	if n.isSymmetric(p.entity, p.relation) && q.Left > q.Right {
		q.Left, q.Right = q.Right, q.Left
	}
	return q
}

// same returns the couples that are the same pair.
func (n *naive) same(p couple) []couple {
	l := []couple{p}
	if n.isSymmetric(p.entity, p.relation) {
		l = append(l, couple{p.entity, p.relation, p.right, p.left})
	}
	return l
}

func (n *naive) isPair(p couple) bool {
	return slices.ContainsFunc(n.same(p), func(q couple) bool { return n.pairs[q] })
}

// play plays one act.
func (n *naive) play(a api.Act) api.Outcome {
	switch a.Kind {
	case api.ActMake:
		return n.make(a.Entity, a.N)
	case api.ActGet:
		return n.get(a.Entity, a.N)
	case api.ActFind:
		return n.findAll(a.Find[0], a.Params)
	case api.ActFlush:
		return api.Outcome{Error: n.flush()}
	case api.ActCommit:
		return api.Outcome{Error: n.commit()}
	case api.ActRollback:
		n.read(n.kept)
		for _, x := range n.handles {
			x.state = api.StatePast
		}
		return api.Outcome{}
	}
	x, err := n.given(a.A, !slices.Contains([]int{api.ActValue, api.ActOne, api.ActAll}, a.Kind))
	if err != api.OK {
		return api.Outcome{Error: err}
	}
	switch a.Kind {
	case api.ActValue:
		return n.value(x, a.Name)
	case api.ActOne:
		return n.one(x, a.Name)
	case api.ActAll:
		return n.all(x, a.Name)
	case api.ActHold:
		if x.state == api.StateFree || x.state == api.StateNew {
			return api.Outcome{Error: api.ErrState}
		}
		x.held = true
		return api.Outcome{}
	}
	err = n.change(x, a)
	if err == api.OK {
		n.lists = map[keptList]bool{}
	}
	return api.Outcome{Error: err}
}

func (n *naive) given(h int, strict bool) (*thing, api.Errno) {
	if h < 1 || h > len(n.handles) {
		return nil, api.ErrArg
	}
	x := n.handles[h-1]
	if x.state == api.StatePast || strict && x.state == api.StateRemoved {
		return nil, api.ErrState
	}
	return x, api.OK
}

// give returns the outcome with the handle of a thing.
func (n *naive) give(x *thing) api.Outcome {
	if x == nil {
		return api.Outcome{}
	}
	if x.handle == 0 {
		if len(n.handles) == api.MaxHandles {
			return api.Outcome{Error: api.ErrLarge}
		}
		n.handles = append(n.handles, x)
		x.handle = len(n.handles)
		if x.state == 0 {
			x.state = api.StateClean
		}
	}
	return api.Outcome{Handles: []int{x.handle}}
}

func (n *naive) giveAll(l []*thing) api.Outcome {
	fresh := 0
	for _, x := range l {
		if x.handle == 0 {
			fresh++
		}
	}
	if len(n.handles)+fresh > api.MaxHandles {
		return api.Outcome{Error: api.ErrLarge}
	}
	var out api.Outcome
	for _, x := range l {
		out.Handles = append(out.Handles, n.give(x).Handles...)
	}
	return out
}

func (n *naive) make(entity string, tenant int) api.Outcome {
	if n.linesOf[entity] == nil {
		return api.Outcome{Error: api.ErrName}
	}
	has := n.root(entity).Tenant
	if !has && n.tenant != 0 || tenant != 0 && (!has || n.tenant != 0 && n.tenant != tenant) {
		return api.Outcome{Error: api.ErrTenant}
	}
	if has && n.tenant == 0 && tenant == 0 || tenant < 0 || tenant > api.MaxInt {
		return api.Outcome{Error: api.ErrArg}
	}
	x := &thing{entity: entity, tenant: tenant, state: api.StateFree, ones: make([]*thing, len(n.onesOf(entity)))}
	if has && n.tenant != 0 {
		x.tenant = n.tenant
	}
	for _, s := range n.valuesOf(entity) {
		x.values = append(x.values, n.defaultOf(s))
	}
	out := n.give(x)
	if out.Error == api.OK {
		n.things = append(n.things, x)
	}
	return out
}

func (n *naive) defaultOf(s api.Slot) api.Value {
	for _, e := range n.m.Entities {
		for _, f := range e.Fields {
			if e.Name == s.Entity && f.Name == s.Name {
				return f.Default
			}
			for _, em := range n.m.Embeds {
				for _, part := range em.Fields {
					if e.Name == s.Entity && f.Of == em.Name && f.Name+"."+part.Name == s.Name {
						return part.Default
					}
				}
			}
		}
	}
	panic("no such slot")
}

// change plays the acts that change a thing.
func (n *naive) change(x *thing, a api.Act) api.Errno {
	foreign := n.tenant != 0 && !n.root(x.entity).Tenant
	if a.Kind == api.ActSave {
		if x.state == api.StateFree {
			x.state = api.StateNew
		}
		return api.OK
	}
	if foreign {
		return api.ErrTenant
	}
	switch a.Kind {
	case api.ActSet:
		l := n.valuesOf(x.entity)
		i := slices.IndexFunc(l, func(s api.Slot) bool { return s.Name == a.Name })
		if i < 0 {
			return api.ErrName
		}
		if err := value.Check(l[i].Kind, a.Value); err != api.OK {
			return err
		}
		x.values[i] = a.Value
	case api.ActPoint:
		return n.point(x, a.Name, a.B)
	case api.ActLink, api.ActUnlink:
		return n.link(x, a.Name, a.B, a.Kind == api.ActLink)
	case api.ActRemove:
		if x.state != api.StateFree && x.state != api.StateNew {
			x.state = api.StateRemoved
			return api.OK
		}
		x.state = api.StatePast
		n.things = slices.DeleteFunc(n.things, func(y *thing) bool { return y == x })
		n.forget(x)
	}
	return api.OK
}

// forget lets nothing that is made or changed refer to a thing.
func (n *naive) forget(x *thing) {
	for _, y := range n.things {
		for i, to := range y.ones {
			if to == x {
				y.ones[i] = nil
			}
		}
	}
	maps.DeleteFunc(n.linked, func(p couple, _ bool) bool { return p.left == x || p.right == x })
}

func (n *naive) point(x *thing, relation string, to int) api.Errno {
	i := onePlace(n.onesOf(x.entity), relation)
	if i < 0 {
		return api.ErrName
	}
	if to == 0 {
		x.ones[i] = nil
		return api.OK
	}
	y, err := n.given(to, true)
	if err != api.OK {
		return err
	}
	if !n.isOf(y, n.onesOf(x.entity)[i].To) {
		return api.ErrType
	}
	if y.tenant != 0 && y.tenant != x.tenant {
		return api.ErrTenant
	}
	x.ones[i] = y
	return api.OK
}

func (n *naive) link(x *thing, relation string, to int, add bool) api.Errno {
	r, ok := n.relationsOf[x.entity][relation]
	if !ok || r.Kind == api.RelOne {
		return api.ErrName
	}
	y, err := n.given(to, true)
	if err != api.OK {
		return err
	}
	if !n.isOf(y, r.To) {
		return api.ErrType
	}
	if r.Kind == api.RelMany {
		i := onePlace(n.onesOf(y.entity), r.Back)
		if x.tenant != 0 && x.tenant != y.tenant {
			return api.ErrTenant
		}
		if add {
			y.ones[i] = x
		} else if y.ones[i] == x {
			y.ones[i] = nil
		}
		return api.OK
	}
	if y.tenant != 0 && y.tenant != x.tenant {
		return api.ErrTenant
	}
	p := n.coupleOf(x, relation, y)
	for _, q := range n.same(p) {
		delete(n.linked, q)
	}
	n.linked[p] = add
	return api.OK
}

// haver returns the entity that itself has a relation that an entity has.
func (n *naive) haver(entity, relation string) string {
	for _, e := range n.m.Entities {
		for _, r := range e.Relations {
			if r.Name == relation && slices.Contains(n.linesOf[entity], e.Name) {
				return e.Name
			}
		}
	}
	panic("no such relation")
}

// coupleOf returns the pair of two things by a relation of the first one.
func (n *naive) coupleOf(x *thing, relation string, y *thing) couple {
	has := n.haver(x.entity, relation)
	entity, owner, _ := schema.Owner(n.m, has, relation)
	if entity == has && owner == relation {
		return couple{entity, owner, x, y}
	}
	return couple{entity, owner, y, x}
}

// query counts a query if some of the things that it loads are not loaded.
func (n *naive) query(l []nameOf) {
	asked := false
	for _, x := range l {
		asked = asked || !n.loaded[x]
		n.loaded[x] = true
	}
	if asked {
		n.statements++
		n.open = true
	}
}

// group returns the things for which something is loaded with that of a thing.
func (n *naive) group(x *thing) []*thing {
	l := []*thing{x}
	if n.way == api.LoadBatch {
		for _, y := range x.find {
			if y != x && y.state != api.StateRemoved && y.state != api.StatePast {
				l = append(l, y)
			}
		}
	}
	return l
}

// follow returns the thing to which a reference leads.
func (n *naive) follow(x *thing, relation string) *thing {
	to := x.ones[onePlace(n.onesOf(x.entity), relation)]
	group := []*thing{x}
	if n.open || to != nil && to.stored != nil && !n.loaded[n.name(to)] {
		group = n.group(x)
	}
	var l []nameOf
	for _, y := range group {
		if i := onePlace(n.onesOf(y.entity), relation); i >= 0 && y.ones[i] != nil && y.ones[i].stored != nil {
			l = append(l, n.name(y.ones[i]))
		}
	}
	n.query(l)
	if !n.isSeen(to) {
		return nil
	}
	return to
}

func (n *naive) get(entity string, id int) api.Outcome {
	if n.linesOf[entity] == nil {
		return api.Outcome{Error: api.ErrName}
	}
	if n.root(entity).Tenant && n.tenant == 0 {
		return api.Outcome{Error: api.ErrTenant}
	}
	name := n.nameFor(entity, n.tenant, id)
	n.query([]nameOf{name})
	x := n.at(name)
	if !n.isSeen(x) || !n.isOf(x, entity) {
		return api.Outcome{Error: api.ErrNone}
	}
	return n.give(x)
}

func (n *naive) findAll(f api.Find, params []api.Value) api.Outcome {
	_, err := query.Objects(n.m, api.World{}, f, params)
	switch {
	case err != api.OK:
	case n.tenant != 0 && f.Tenant != 0 && f.Tenant != n.tenant:
		err = api.ErrTenant
	case f.Gone:
		err = api.ErrForm
	default:
		err = n.flush()
	}
	if err != api.OK {
		return api.Outcome{Error: err}
	}
	if n.tenant != 0 {
		f.Tenant = n.tenant
	}
	n.open = true
	refs, err := query.Objects(n.m, n.world(), f, params)
	var l []*thing
	for _, r := range refs {
		l = append(l, n.at(n.nameFor(r.Entity, r.Tenant, r.ID)))
	}
	out := n.giveAll(l)
	if err != api.OK || out.Error != api.OK {
		return out
	}
	n.statements++
	for _, x := range l {
		x.find = l
		n.loaded[n.name(x)] = true
	}
	if n.way == api.LoadEager {
		steps, _ := query.Steps(n.m, f.Entity, f.Include)
		reached := [][]*thing{}
		for _, step := range steps {
			from := l
			if step.From >= 0 {
				from = reached[step.From]
			}
			n.statements++
			reached = append(reached, n.include(from, step.Relation))
		}
	}
	return out
}

// include loads what things have by a relation.
func (n *naive) include(from []*thing, relation string) []*thing {
	var l []*thing
	for _, x := range from {
		if i := onePlace(n.onesOf(x.entity), relation); i >= 0 {
			if to := x.ones[i]; to != nil {
				n.loaded[n.name(to)] = true
				if n.isSeen(to) {
					l = append(l, to)
				}
			}
			continue
		}
		n.lists[keptList{x, relation}] = true
		l = append(l, n.related(x, relation)...)
	}
	return l
}

// related returns the things of a relation to many that are seen.
func (n *naive) related(x *thing, relation string) []*thing {
	r := n.relationsOf[x.entity][relation]
	var l []*thing
	for _, y := range n.things {
		if y.stored == nil || !n.isOf(y, r.To) {
			continue
		}
		found := r.Kind == api.RelMany && y.stored.ones[max(0, onePlace(n.onesOf(y.entity), r.Back))] == x
		if r.Kind == api.RelPairs {
			found = n.isPair(n.coupleOf(x, relation, y))
		}
		if found && n.isSeen(y) {
			n.loaded[n.name(y)] = true
			l = append(l, y)
		}
	}
	return n.sorted(l)
}

func (n *naive) value(x *thing, path string) api.Outcome {
	if _, err := query.Path(n.m, x.entity, path); err != api.OK {
		return api.Outcome{Error: err}
	}
	names := strings.Split(path, ".")
	for len(names) > 0 && n.relationsOf[x.entity][names[0]].Kind == api.RelOne {
		x, names = n.follow(x, names[0]), names[1:]
		if x == nil {
			return api.Outcome{}
		}
	}
	last := strings.Join(names, ".")
	number := func(n int) api.Outcome {
		if n == 0 {
			return api.Outcome{}
		}
		return api.Outcome{Value: integer(n)}
	}
	switch last {
	case "", "id":
		return number(x.id)
	case "version":
		return number(x.version)
	case "tenant":
		return number(x.tenant)
	case "gone":
		return api.Outcome{Value: x.gone}
	}
	slots := n.valuesOf(x.entity)
	var columns []api.Cell
	for i, s := range slots {
		if s.Name == last {
			return api.Outcome{Value: x.values[i]}
		}
		columns = append(columns, api.Cell{Name: s.Name, Kind: s.Kind})
	}
	formulas, _ := schema.Formulas(n.m, x.entity)
	for _, f := range formulas {
		if f.Name == last {
			v, _ := value.Eval(f.Expr, columns, x.values, nil)
			return api.Outcome{Value: v}
		}
	}
	panic("no such path")
}

func (n *naive) one(x *thing, relation string) api.Outcome {
	if onePlace(n.onesOf(x.entity), relation) < 0 {
		return api.Outcome{Error: api.ErrName}
	}
	return n.give(n.follow(x, relation))
}

func (n *naive) all(x *thing, relation string) api.Outcome {
	r, ok := n.relationsOf[x.entity][relation]
	if !ok || r.Kind == api.RelOne {
		return api.Outcome{Error: api.ErrName}
	}
	if x.state == api.StateFree || x.state == api.StateRemoved {
		return api.Outcome{Error: api.ErrState}
	}
	n.askPairs()
	if n.isDirty() {
		if err := n.flush(); err != api.OK {
			return api.Outcome{Error: err}
		}
	}
	if x.state == api.StatePast {
		return api.Outcome{Error: api.ErrState}
	}
	asked := false
	for _, y := range n.group(x) {
		if _, has := n.relationsOf[y.entity][relation]; has && !n.lists[keptList{y, relation}] {
			n.lists[keptList{y, relation}] = true
			n.related(y, relation)
			asked = true
		}
	}
	if asked {
		n.statements++
		n.open = true
	}
	return n.giveAll(n.related(x, relation))
}
