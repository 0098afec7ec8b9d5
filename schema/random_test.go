package schema_test

import (
	"cmp"
	"math/rand"
	"slices"
	"strconv"
	"testing"

	"dumbwaiter/api"
	"dumbwaiter/schema"
)

// maker makes random models and worlds.
type maker struct{ *rand.Rand }

func (r maker) chance(n int) bool { return r.Intn(n) == 0 }

// value makes a value of a kind.
func (r maker) value(kind int) api.Value {
	texts := []string{"", "a", "b", "it's", " ", "x  y", "null", "default 'a'", long(100), "texts", "''"}
	switch kind {
	case api.Bool:
		return boolean(r.Intn(2))
	case api.Int:
		return integer([]int{0, 1, 2, 3, -1, 7, api.MaxInt, -api.MaxInt, r.Intn(1000)}[r.Intn(9)])
	case api.Text:
		return text(texts[r.Intn(len(texts))])
	}
	return moment([]int{0, 60, 1794906300, api.MaxMoment, r.Intn(100000)}[r.Intn(5)])
}

// field makes a stored field.
func (r maker) field(name string) api.Field {
	f := api.Field{Name: name, Kind: 1 + r.Intn(4), Null: r.chance(2)}
	if r.chance(3) {
		f.Default = r.value(f.Kind)
	}
	if f.Kind == api.Text && r.chance(3) {
		for range 1 + r.Intn(3) {
			if s := r.value(api.Text).S; !slices.Contains(f.Texts, s) {
				f.Texts = append(f.Texts, s)
			}
		}
		if f.Default.Kind != api.Null {
			f.Default = text(f.Texts[0])
		}
	}
	return f
}

// model makes a right model.
func (r maker) model() api.Model {
	for {
		if m := r.guess(); schema.Check(m) == api.OK {
			return m
		}
	}
}

// guess makes a model that is often right.
func (r maker) guess() api.Model {
	var m api.Model
	for i := range r.Intn(3) {
		e := api.Embed{Name: "em" + strconv.Itoa(i)}
		for k := range r.Intn(3) {
			e.Fields = append(e.Fields, r.field("p"+strconv.Itoa(k)))
		}
		m.Embeds = append(m.Embeds, e)
	}
	// Names of which one begins with another one, so that names of tables and of entities are in different orders.
	names := []string{"a", "a1", "ab", "b", "a0", "b2"}
	r.Shuffle(len(names), func(i, k int) { names[i], names[k] = names[k], names[i] })
	for i := range 1 + r.Intn(5) {
		e := api.Entity{Name: names[i]}
		if i > 0 && r.chance(2) {
			e.Parent = names[r.Intn(i)]
		} else {
			e.Apart, e.Version, e.Soft, e.Tenant = r.chance(2), r.chance(2), r.chance(2), r.chance(2)
		}
		r.members(&m, &e, i)
		m.Entities = append(m.Entities, e)
	}
	for i := range m.Entities {
		r.relations(&m, i)
	}
	for i := range m.Entities {
		r.lists(&m, i)
	}
	return m
}

// members makes fields of entity number i.
func (r maker) members(m *api.Model, e *api.Entity, i int) {
	for k := range r.Intn(3) {
		name := "f" + strconv.Itoa(i) + strconv.Itoa(k)
		switch {
		case len(m.Embeds) > 0 && r.chance(4):
			e.Fields = append(e.Fields, api.Field{Name: name, Of: m.Embeds[r.Intn(len(m.Embeds))].Name})
		case r.chance(5):
			e.Fields = append(e.Fields, api.Field{Name: name, Kind: api.Int, Formula: []api.Expr{{Kind: api.XValue, Value: r.value(api.Int)}}})
		default:
			e.Fields = append(e.Fields, r.field(name))
		}
	}
}

// relations makes relations of entity number i.
func (r maker) relations(m *api.Model, i int) {
	e := &m.Entities[i]
	for k := range r.Intn(4) {
		name := "r" + strconv.Itoa(i) + strconv.Itoa(k)
		other := r.Intn(len(m.Entities))
		to := &m.Entities[other]
		switch r.Intn(4) {
		case 0, 1:
			one := api.Relation{Name: name, Kind: api.RelOne, To: to.Name, OnDelete: 1 + r.Intn(3), Cascade: r.chance(2)}
			one.Need = one.OnDelete != api.Clear && r.chance(3)
			e.Relations = append(e.Relations, one)
			if r.chance(2) {
				to.Relations = append(to.Relations, api.Relation{Name: "m" + name, Kind: api.RelMany, To: e.Name, Back: name})
			}
		case 2:
			pairs := api.Relation{Name: name, Kind: api.RelPairs, To: to.Name, Cascade: r.chance(2)}
			if other == i && r.chance(2) {
				pairs.Back = name
			} else if r.chance(2) {
				pairs.Back = "b" + name
				to.Relations = append(to.Relations, api.Relation{Name: pairs.Back, Kind: api.RelPairs, To: e.Name, Back: name})
			}
			e = &m.Entities[i]
			e.Relations = append(e.Relations, pairs)
		}
	}
}

// lists makes Uniques and Indexes of entity number i.
func (r maker) lists(m *api.Model, i int) {
	e := &m.Entities[i]
	var names []string
	for _, f := range e.Fields {
		if f.Kind != 0 && len(f.Formula) == 0 {
			names = append(names, f.Name)
		}
		for _, embed := range m.Embeds {
			for _, part := range embed.Fields {
				if embed.Name == f.Of {
					names = append(names, f.Name+"."+part.Name)
				}
			}
		}
	}
	for _, x := range e.Relations {
		if x.Kind == api.RelOne {
			names = append(names, x.Name)
		}
	}
	for range r.Intn(3) {
		if len(names) == 0 {
			return
		}
		r.Shuffle(len(names), func(i, k int) { names[i], names[k] = names[k], names[i] })
		list := slices.Clone(names[:1+r.Intn(min(len(names), 3))])
		if r.chance(2) {
			e.Uniques = append(e.Uniques, list)
		} else {
			e.Indexes = append(e.Indexes, list)
		}
	}
}

// world makes a right world, empty if none is found soon.
func (r maker) world(m api.Model) api.World {
	for range 50 {
		w := r.guessWorld(m)
		if schema.CheckWorld(m, w) == api.OK {
			return w
		}
	}
	return api.World{}
}

// kin is the family of an entity: its root, the names of the entity and those below it, and its slots.
type kin struct {
	root  api.Entity
	below []string
	slots []api.Slot
}

// kinOf returns the kin of all entities.
func kinOf(m api.Model) map[string]kin {
	all := map[string]kin{}
	for _, e := range m.Entities {
		root, _ := schema.Root(m, e.Name)
		below, _ := schema.Family(m, e.Name)
		slots, _ := schema.Slots(m, e.Name)
		all[e.Name] = kin{m.Entities[place(m, root)], below, slots}
	}
	return all
}

// guessWorld makes a world that is often right.
func (r maker) guessWorld(m api.Model) api.World {
	var w api.World
	all := kinOf(m)
	ids := map[string][]int{}
	for _, e := range m.Entities {
		root := all[e.Name].root
		if len(ids[root.Name]) == 0 {
			ids[root.Name] = r.Perm(30)
		}
		for range r.Intn(4) {
			o := api.Object{Entity: e.Name, ID: 1 + ids[root.Name][0]}
			ids[root.Name] = ids[root.Name][1:]
			if root.Tenant {
				o.Tenant = 1 + r.Intn(2)
			}
			if root.Version {
				o.Version = 1 + r.Intn(5)
			}
			if root.Soft && r.chance(3) {
				o.Gone = r.value(api.Moment)
			}
			w.Objects = append(w.Objects, o)
		}
	}
	slices.SortFunc(w.Objects, func(a, b api.Object) int {
		return cmp.Or(cmp.Compare(place(m, all[a.Entity].root.Name), place(m, all[b.Entity].root.Name)), cmp.Compare(a.Tenant, b.Tenant), cmp.Compare(a.ID, b.ID))
	})
	for i := range w.Objects {
		r.fill(m, w, all, &w.Objects[i])
	}
	r.pairs(m, &w, all)
	return w
}

// targets are the ids of the objects of an entity to which something of a tenant can refer.
func targets(w api.World, k kin, tenant int) []int {
	var l []int
	for _, o := range w.Objects {
		if slices.Contains(k.below, o.Entity) && (!k.root.Tenant || o.Tenant == tenant) {
			l = append(l, o.ID)
		}
	}
	return l
}

// fill gives an object values and references.
func (r maker) fill(m api.Model, w api.World, all map[string]kin, o *api.Object) {
	for _, s := range all[o.Entity].slots {
		if s.Kind == 0 {
			ids := targets(w, all[s.To], o.Tenant)
			if len(ids) == 0 || s.Null && r.chance(3) {
				o.Ones = append(o.Ones, 0)
			} else {
				o.Ones = append(o.Ones, ids[r.Intn(len(ids))])
			}
			continue
		}
		v := r.value(s.Kind)
		if l := permitted(m, s); len(l) > 0 {
			v = text(l[r.Intn(len(l))])
		}
		if s.Null && r.chance(3) {
			v = null
		}
		o.Values = append(o.Values, v)
	}
}

// permitted returns the permitted texts of the field of a slot.
func permitted(m api.Model, s api.Slot) []string {
	for _, f := range m.Entities[place(m, s.Entity)].Fields {
		if f.Name == s.Name {
			return f.Texts
		}
		for _, embed := range m.Embeds {
			for _, part := range embed.Fields {
				if f.Of == embed.Name && f.Name+"."+part.Name == s.Name {
					return part.Texts
				}
			}
		}
	}
	return nil
}

// pairs makes pairs.
func (r maker) pairs(m api.Model, w *api.World, all map[string]kin) {
	for _, e := range m.Entities {
		for _, x := range e.Relations {
			owner, name, err := schema.Owner(m, e.Name, x.Name)
			if err != api.OK || owner != e.Name || name != x.Name {
				continue
			}
			for range r.Intn(5) {
				p := api.PairOf{Entity: e.Name, Relation: x.Name}
				if all[e.Name].root.Tenant {
					p.Tenant = 1 + r.Intn(2)
				}
				left, right := targets(*w, all[e.Name], p.Tenant), targets(*w, all[x.To], p.Tenant)
				if len(left) == 0 || len(right) == 0 {
					continue
				}
				p.Left, p.Right = left[r.Intn(len(left))], right[r.Intn(len(right))]
				if x.To == e.Name && x.Back == x.Name {
					p.Left, p.Right = min(p.Left, p.Right), max(p.Left, p.Right)
				}
				if !slices.Contains(w.Pairs, p) {
					w.Pairs = append(w.Pairs, p)
				}
			}
		}
	}
	slices.SortFunc(w.Pairs, func(a, b api.PairOf) int {
		return cmp.Or(cmp.Compare(a.Entity, b.Entity), cmp.Compare(a.Relation, b.Relation), cmp.Compare(a.Tenant, b.Tenant), cmp.Compare(a.Left, b.Left), cmp.Compare(a.Right, b.Right))
	})
}

// schema makes a right schema with foreign keys in any directions.
func (r maker) schema() api.Schema {
	var s api.Schema
	for i := range 1 + r.Intn(8) {
		t := api.Table{Name: "t" + strconv.Itoa(i), Columns: []api.Column{{Name: "id", Kind: api.Int}, {Name: "x_1", Kind: 1 + r.Intn(4), Null: r.chance(2)}}, Key: []string{"id"}}
		if r.chance(2) {
			t.Columns[1].Default = r.value(t.Columns[1].Kind)
		}
		if r.chance(3) {
			t.Indexes = append(t.Indexes, api.Index{Name: "i_", Columns: []string{"x_1", "id"}, Unique: r.chance(2)})
		}
		s.Tables = append(s.Tables, t)
	}
	for i := range s.Tables {
		for k := range r.Intn(3) {
			s.Tables[i].Foreigns = append(s.Tables[i].Foreigns, api.Foreign{Name: "f" + strconv.Itoa(k), Columns: []string{"id"}, Table: s.Tables[r.Intn(len(s.Tables))].Name})
		}
	}
	return s
}

// randomly runs a test with several makers.
func randomly(t *testing.T, times int, f func(t *testing.T, r maker)) {
	t.Helper()
	for seed := range times {
		f(t, maker{rand.New(rand.NewSource(int64(seed)))})
		if t.Failed() {
			t.Fatal("seed", seed)
		}
	}
}
