package shards

import (
	"slices"
	"strconv"

	"dumbwaiter/api"
	"dumbwaiter/layout"
	"dumbwaiter/schema"
)

// field says of a model how many objects of each entity there can be.
type field struct {
	kinds  map[string]*kind
	plants []*plant
	many   int // that are wanted of each
	packs  map[string]*packed
	tries  int
}

// packed is what pack has found when so many lists were wanted.
type packed struct {
	rows [][]int
	want int
}

// plant is an entity with what is asked when its objects are made.
type plant struct {
	*kind
	name   string
	line   []int // the places of the entities from the root down to it
	family []int // the places of it and of those below it
	own    []slot
	tight  [][]int // its unique lists that only so many objects can have, by places of own
	loose  [][]int // its other unique lists
}

// slot is a slot of an entity.
type slot struct {
	api.Slot
	texts    []string
	target   int  // the place of the entity To
	isShared bool // the family of To has no tenant
	isUnique bool // it stands in a unique list
	isTight  bool // it stands in a tight one
}

// isFinite reports whether there are few values: those of other slots can be another one for each object.
func (x slot) isFinite() bool { return x.Kind == 0 || x.Kind == api.Bool || len(x.texts) > 0 }

// group is the objects of an entity, and below it, of a tenant (0: without a tenant).
type group struct{ plant, tenant int }

// targets returns the group to which a slot of objects of a tenant refers.
func (x slot) targets(tenant int) group {
	if x.isShared {
		tenant = 0
	}
	return group{x.target, tenant}
}

// size returns how many values there are, or objects to refer to.
func (x slot) size(tenant int, countOf func(g group) int) int {
	switch {
	case x.Kind == 0:
		return countOf(x.targets(tenant))
	case x.Kind == api.Bool:
		return 2
	}
	return len(x.texts)
}

// tenants returns the tenants of objects.
func (p *plant) tenants() []int {
	if p.root.Tenant {
		return []int{1, 2}
	}
	return []int{0}
}

// valueOf returns what an object has in a slot: null for a reference to nothing.
func (p *plant) valueOf(o *api.Object, x slot) api.Value {
	if x.Kind != 0 {
		return o.Values[slotOf(p.values, x.Name)]
	}
	if id := o.Ones[slotOf(p.ones, x.Name)]; id != 0 {
		return api.Value{Kind: api.Int, N: id}
	}
	return api.Value{}
}

// fieldOf returns the field of a right model.
func fieldOf(m api.Model, many int) *field {
	f := &field{kinds: kindsOf(m), many: many, packs: map[string]*packed{}, tries: 20000}
	placeOf := func(name string) int {
		return slices.IndexFunc(m.Entities, func(e api.Entity) bool { return e.Name == name })
	}
	for i, e := range m.Entities {
		p := &plant{kind: f.kinds[e.Name], name: e.Name, line: []int{i}}
		if e.Parent != "" {
			p.line = append(slices.Clone(f.plants[placeOf(e.Parent)].line), i)
		}
		below, _ := schema.Family(m, e.Name)
		for _, name := range below {
			p.family = append(p.family, placeOf(name))
		}
		for _, s := range slices.Concat(p.values, p.ones) {
			switch {
			case s.Entity != e.Name:
			case s.Kind == 0:
				p.own = append(p.own, slot{Slot: s, target: placeOf(s.To), isShared: !f.kinds[s.To].root.Tenant})
			default:
				p.own = append(p.own, slot{Slot: s, texts: layout.Field(m, s).Texts})
			}
		}
		p.addUniques(e.Uniques)
		f.plants = append(f.plants, p)
	}
	return f
}

// addUniques adds the unique lists of an entity.
func (p *plant) addUniques(lists [][]string) {
	for _, names := range lists {
		var places []int
		for _, name := range names {
			places = append(places, slices.IndexFunc(p.own, func(x slot) bool { return x.Name == name }))
		}
		isTight := !slices.ContainsFunc(places, func(i int) bool { return p.own[i].Null || !p.own[i].isFinite() })
		if isTight {
			p.tight = append(p.tight, places)
		} else {
			p.loose = append(p.loose, places)
		}
		for _, i := range places {
			p.own[i].isUnique = true
			p.own[i].isTight = p.own[i].isTight || isTight
		}
	}
}

// pack returns the values of the own slots of an entity in its tight lists, by their numbers, for as many objects of a tenant as it can.
func (f *field) pack(p *plant, tenant, want int, countOf func(g group) int) [][]int {
	var sizes []int
	label := p.name
	for _, x := range p.own {
		size := 1
		if x.isTight {
			size = x.size(tenant, countOf)
		}
		sizes = append(sizes, size)
		label += " " + strconv.Itoa(size)
	}
	known := f.packs[label]
	if known == nil || len(known.rows) < want && known.want < want {
		known = &packed{pack(sizes, p.tight, want), want}
		f.packs[label] = known
	}
	return known.rows[:min(want, len(known.rows))]
}

// counts returns how many objects of each entity are made: of each one as many as there can be with those of the entities ahead of it.
func (f *field) counts() []int {
	all := slices.Repeat([]int{f.many}, len(f.plants))
	if _, ok := f.lacks(all); ok {
		return all
	}
	best := make([]int, len(f.plants))
	for i := range best {
		for n := f.many; n > best[i]; n-- {
			trial := slices.Clone(best)
			clear(trial[i:])
			trial[i] = n
			if f.complete(trial, i+1) {
				best = trial
				break
			}
		}
	}
	return best
}

// complete adds objects of entities from a place on until nothing is lacking, and reports whether it could.
func (f *field) complete(counts []int, from int) bool {
	f.tries--
	if f.tries < 0 {
		return false
	}
	more, ok := f.lacks(counts)
	if ok {
		return true
	}
	for _, i := range more {
		if i < from || counts[i] == f.many {
			continue
		}
		counts[i]++
		if f.complete(counts, from) {
			return true
		}
		counts[i]--
	}
	return false
}

// lacks reports whether there can be so many objects of each entity; if not, it returns the entities of which more could help.
func (f *field) lacks(counts []int) ([]int, bool) {
	countOf := func(g group) int { return f.count(counts, g) }
	for i, p := range f.plants {
		for _, tenant := range p.tenants() {
			n := countOf(group{i, tenant})
			if n == 0 {
				continue
			}
			for _, x := range p.own {
				if x.Kind == 0 && !x.Null && x.size(tenant, countOf) == 0 {
					return f.plants[x.target].family, false
				}
			}
			if len(p.tight) > 0 && len(f.pack(p, tenant, n, countOf)) < n {
				return f.sources(p), false
			}
		}
	}
	return nil, true
}

// sources returns the entities to which the tight lists of an entity refer.
func (f *field) sources(p *plant) []int {
	var l []int
	for _, x := range p.own {
		if x.isTight && x.Kind == 0 {
			l = append(l, f.plants[x.target].family...)
		}
	}
	return l
}

// count returns how many objects a group has: those of an entity are for its tenants in turn.
func (f *field) count(counts []int, g group) int {
	n := 0
	for _, i := range f.plants[g.plant].family {
		if g.tenant == 0 {
			n += counts[i]
		} else {
			n += (counts[i] + 2 - g.tenant) / 2
		}
	}
	return n
}
