package shards

import (
	"slices"
	"strconv"

	"dumbwaiter/api"
	"dumbwaiter/layout"
	"dumbwaiter/schema"
)

// field says of a model how many objects of each entity there can be.
type field struct {
	kinds     map[string]*kind
	plants    []*plant
	many      int // that are wanted of each
	packs     map[string]packed
	packTries int // how many tries are left for pack
	tries     int // how many are left for counts
}

// packed is what pack has found when so many lists were wanted.
type packed struct {
	rows [][]int
	want int
}

// plant is an entity with what is asked when its objects are made.
type plant struct {
	*kind
	name   string
	line   []int // the places of the entities from the root down to it
	family []int // the places of it and of those below it
	own    []slot
	tight  [][]int // its unique lists that only so many objects can have, by places of own
	loose  [][]int // its other unique lists
}

// slot is a slot of an entity.
type slot struct {
	api.Slot
	texts    []string
	target   int  // the place of the entity To
	isShared bool // the family of To has no tenant
	isUnique bool // it stands in a unique list
	isTight  bool // it stands in a tight one
}

// isFinite reports whether there are few values: those of other slots can be another one for each object.
func (x slot) isFinite() bool { return x.Kind == 0 || x.Kind == api.Bool || len(x.texts) > 0 }

// group is the objects of an entity, and below it, of a tenant (0: without a tenant).
type group struct{ plant, tenant int }

// targets returns the group to which a slot of objects of a tenant refers.
func (x slot) targets(tenant int) group {
	if x.isShared {
		tenant = 0
	}
	return group{x.target, tenant}
}

// size returns how many values there are, or objects to refer to.
func (x slot) size(tenant int, countOf func(g group) int) int {
	switch {
	case x.Kind == 0:
		return countOf(x.targets(tenant))
	case x.Kind == api.Bool:
		return 2
	}
	return len(x.texts)
}

// tenants returns the tenants of objects.
func (p *plant) tenants() []int {
	if p.root.Tenant {
		return []int{1, 2}
	}
	return []int{0}
}

// valueOf returns what an object has in a slot: null for a reference to nothing.
func (p *plant) valueOf(o *api.Object, x slot) api.Value {
	if x.Kind != 0 {
		return o.Values[slotOf(p.values, x.Name)]
	}
	if id := o.Ones[slotOf(p.ones, x.Name)]; id != 0 {
		return api.Value{Kind: api.Int, N: id}
	}
	return api.Value{}
}

// fieldOf returns the field of a right model.
func fieldOf(m api.Model, many int) *field {
	f := &field{kinds: kindsOf(m), many: many, packs: map[string]packed{}, packTries: 500000, tries: 50000}
	placeOf := func(name string) int {
		return slices.IndexFunc(m.Entities, func(e api.Entity) bool { return e.Name == name })
	}
	for i, e := range m.Entities {
		p := &plant{kind: f.kinds[e.Name], name: e.Name, line: []int{i}}
		if e.Parent != "" {
			p.line = append(slices.Clone(f.plants[placeOf(e.Parent)].line), i)
		}
		below, _ := schema.Family(m, e.Name)
		for _, name := range below {
			p.family = append(p.family, placeOf(name))
		}
		for _, s := range slices.Concat(p.values, p.ones) {
			switch {
			case s.Entity != e.Name:
			case s.Kind == 0:
				p.own = append(p.own, slot{Slot: s, target: placeOf(s.To), isShared: !f.kinds[s.To].root.Tenant})
			default:
				p.own = append(p.own, slot{Slot: s, texts: layout.Field(m, s).Texts})
			}
		}
		p.addUniques(e.Uniques)
		f.plants = append(f.plants, p)
	}
	return f
}

// addUniques adds the unique lists of an entity.
func (p *plant) addUniques(lists [][]string) {
	for _, names := range lists {
		var places []int
		for _, name := range names {
			places = append(places, slices.IndexFunc(p.own, func(x slot) bool { return x.Name == name }))
		}
		isTight := !slices.ContainsFunc(places, func(i int) bool { return p.own[i].Null || !p.own[i].isFinite() })
		if isTight {
			p.tight = append(p.tight, places)
		} else {
			p.loose = append(p.loose, places)
		}
		for _, i := range places {
			p.own[i].isUnique = true
			p.own[i].isTight = p.own[i].isTight || isTight
		}
	}
}

// pack returns the values of the own slots of an entity in its tight lists, by their numbers, for as many objects of a tenant as it can.
func (f *field) pack(p *plant, tenant, want int, countOf func(g group) int) [][]int {
	var sizes []int
	label := p.name
	for _, x := range p.own {
		size := 1
		if x.isTight {
			size = x.size(tenant, countOf)
		}
		sizes = append(sizes, size)
		label += " " + strconv.Itoa(size)
	}
	known := f.packs[label]
	if len(known.rows) < want && known.want < want {
		rows, tries := pack(sizes, p.tight, want, want+min(5000, f.packTries))
		f.packTries = max(f.packTries-tries, 0)
		known.want = want
		if len(rows) > len(known.rows) { // the search could be shorter than the one before
			known.rows = rows
		}
		f.packs[label] = known
	}
	return known.rows[:min(want, len(known.rows))]
}

// count returns how many objects a group has: those of an entity are for its tenants in turn.
func (f *field) count(counts []int, g group) int {
	n := 0
	for _, i := range f.plants[g.plant].family {
		n += share(counts[i], g.tenant)
	}
	return n
}

// share returns how many of some objects of an entity a tenant has.
func share(count, tenant int) int {
	if tenant == 0 {
		return count
	}
	return (count + 2 - tenant) / 2
}
