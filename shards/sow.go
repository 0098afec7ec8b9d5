package shards

import (
	"slices"
	"strconv"

	"dumbwaiter/api"
	"dumbwaiter/schema"
	"dumbwaiter/value"
)

// Sow returns a world with objects made from a seed.
func Sow(m api.Model, seed, many int) (api.World, api.Errno) {
	if err := schema.Check(m); err != api.OK {
		return api.World{}, err
	}
	if many < 0 || many > 50 {
		return api.World{}, api.ErrArg
	}
	f := fieldOf(m, many)
	s := &sowing{field: f, chance: chance(seed), members: map[group][]*api.Object{}}
	s.make(f.counts())
	for _, g := range s.groups() {
		s.fill(g)
	}
	var w api.World
	for _, o := range s.objects {
		w.Objects = append(w.Objects, *o)
	}
	sortObjects(w.Objects, f.kinds)
	return w, api.OK
}

// chance is a row of numbers that looks like chance.
type chance uint64

// below returns the next number that is at least 0 and less than n.
func (c *chance) below(n int) int {
	*c += 0x9e3779b97f4a7c15
	x := uint64(*c)
	x = (x ^ x>>30) * 0xbf58476d1ce4e5b9
	x = (x ^ x>>27) * 0x94d049bb133111eb
	return int((x ^ x>>31) >> 1 % uint64(n))
}

// sowing is a world that is being made.
type sowing struct {
	*field
	chance
	objects []*api.Object
	members map[group][]*api.Object
	serial  int // of values that nothing else has
}

// make makes as many objects of each entity, without values and references.
func (s *sowing) make(counts []int) {
	used := ids{}
	for i, p := range s.plants {
		for n := range counts[i] {
			tenant := 0
			if p.root.Tenant {
				tenant = 1 + n%2
			}
			o := p.made(p.name, tenant)
			o.ID = used.next(p.root.Name, tenant)
			s.objects = append(s.objects, &o)
			for _, place := range p.line {
				g := group{place, tenant}
				s.members[g] = append(s.members[g], &o)
			}
		}
	}
}

// groups returns the groups of all entities.
func (s *sowing) groups() []group {
	var l []group
	for i, p := range s.plants {
		for _, tenant := range p.tenants() {
			l = append(l, group{i, tenant})
		}
	}
	return l
}

// fill gives the objects of a group the values and references of the own slots of its entity.
func (s *sowing) fill(g group) {
	p, l := s.plants[g.plant], s.members[g]
	var rows [][]int
	if len(p.tight) > 0 {
		rows = s.pack(p, g.tenant, len(l), s.countOf)
	}
	turn := s.below(len(l) + 1)
	for i, o := range l {
		for k, x := range p.own {
			if x.isTight {
				s.put(o, p, x, rows[(i+turn)%len(l)][k])
			} else {
				s.scatter(o, p, x)
			}
		}
	}
	for _, places := range p.loose {
		s.part(l, p, places)
	}
}

// countOf returns how many objects a group has.
func (s *sowing) countOf(g group) int { return len(s.members[g]) }

// put gives an object the value of a slot that is finite, or the reference, with a number.
func (s *sowing) put(o *api.Object, p *plant, x slot, number int) {
	switch {
	case x.Kind == 0:
		o.Ones[slotOf(p.ones, x.Name)] = s.members[x.targets(o.Tenant)][number].ID
	case x.Kind == api.Bool:
		o.Values[slotOf(p.values, x.Name)] = api.Value{Kind: api.Bool, N: number}
	default:
		o.Values[slotOf(p.values, x.Name)] = api.Value{Kind: api.Text, S: x.texts[number]}
	}
}

// clear takes the value or the reference of a slot from an object.
func (s *sowing) clear(o *api.Object, p *plant, x slot) {
	if x.Kind == 0 {
		o.Ones[slotOf(p.ones, x.Name)] = 0
	} else {
		o.Values[slotOf(p.values, x.Name)] = api.Value{}
	}
}

// scatter gives an object any value of a slot, or any reference.
func (s *sowing) scatter(o *api.Object, p *plant, x slot) {
	size := 1000
	if x.isFinite() {
		size = x.size(o.Tenant, s.countOf)
	}
	n := s.below(size + size/4 + 1)
	switch {
	case x.isUnique && !x.isFinite():
		s.serial++
		s.write(o, p, x, s.serial)
	case n >= size && x.Null:
		s.clear(o, p, x)
	case x.isFinite():
		s.put(o, p, x, n%size)
	default:
		s.write(o, p, x, n%size)
	}
}

// write gives an object the value of a slot that is not finite, with a number.
func (s *sowing) write(o *api.Object, p *plant, x slot, number int) {
	v := api.Value{Kind: x.Kind, N: number}
	switch x.Kind {
	case api.Text:
		v = api.Value{Kind: api.Text, S: x.Name + " " + strconv.Itoa(number)}
	case api.Moment:
		v.N = number * 86400
	}
	o.Values[slotOf(p.values, x.Name)] = v
}

// part takes a value from objects that are equal to earlier ones in a unique list. (Where no value of the list can be null, it has one that is another one for each object.)
func (s *sowing) part(l []*api.Object, p *plant, places []int) {
	can := slices.IndexFunc(places, func(place int) bool { return p.own[place].Null })
	if can < 0 {
		return
	}
	seen := map[string]bool{}
	for _, o := range l {
		var row []api.Value
		for _, place := range places {
			row = append(row, p.valueOf(o, p.own[place]))
		}
		if mark := string(value.Key(row)); seen[mark] {
			s.clear(o, p, p.own[places[can]])
		} else {
			seen[mark] = true
		}
	}
}
