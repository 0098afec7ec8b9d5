package shards

import "slices"

// lack is a group that has more objects than there can be.
type lack struct {
	group
	more []int // the entities of which more objects could help
}

// lacks returns a lack of so many objects of each entity, if there is one.
func (f *field) lacks(counts []int) (lack, bool) {
	countOf := func(g group) int { return f.count(counts, g) }
	for i, p := range f.plants {
		for _, tenant := range p.tenants() {
			g := group{i, tenant}
			n := countOf(g)
			if n == 0 {
				continue
			}
			for _, x := range p.own {
				if x.Kind == 0 && !x.Null && x.size(tenant, countOf) == 0 {
					return lack{g, f.plants[x.target].family}, true
				}
			}
			if len(p.tight) > 0 && len(f.pack(p, tenant, n, countOf)) < n {
				return lack{g, f.sources(p)}, true
			}
		}
	}
	return lack{}, false
}

// sources returns the entities to which the tight lists of an entity refer.
func (f *field) sources(p *plant) []int {
	var l []int
	for _, x := range p.own {
		if x.isTight && x.Kind == 0 {
			l = append(l, f.plants[x.target].family...)
		}
	}
	return l
}

// counts returns how many objects of each entity are made: of each one as many as there can be with those of the entities ahead of it. The search is bounded: where entities hinder one another in many ways, there can be fewer.
func (f *field) counts() []int {
	best := slices.Repeat([]int{f.many}, len(f.plants))
	f.lower(best, 0)
	for i := range best {
		for n := f.many; n > best[i]; n-- {
			trial := slices.Clone(best)
			trial[i] = n
			if f.complete(trial, i+1) {
				best = trial
				break
			}
		}
	}
	return best
}

// complete looks for numbers of objects of the entities from a place on with which nothing is lacking, and reports whether it has found them.
func (f *field) complete(counts []int, from int) bool {
	later := counts[from:]
	for i := range later {
		later[i] = f.many
	}
	if f.lower(counts, from) {
		return true
	}
	clear(later)
	return f.raise(counts, from, map[string]bool{})
}

// lower takes objects of entities from a place on, the last ones first, until nothing is lacking, and reports whether it could. (From the first one on it always can.)
func (f *field) lower(counts []int, from int) bool {
	for from == 0 || f.tries > 0 {
		f.tries--
		l, lacking := f.lacks(counts)
		if !lacking {
			return true
		}
		ok := false
		for _, i := range slices.Backward(f.plants[l.plant].family) {
			if i >= from && counts[i] > 0 && share(counts[i], l.tenant) > 0 {
				counts[i]--
				ok = true
				break
			}
		}
		if !ok {
			return false
		}
	}
	return false
}

// raise adds objects of entities from a place on until nothing is lacking, and reports whether it could. It does not try again the numbers with which it has failed.
func (f *field) raise(counts []int, from int, failed map[string]bool) bool {
	var label []byte
	for _, n := range counts {
		label = append(label, byte(n))
	}
	if failed[string(label)] || len(failed) >= 500 || f.tries <= 0 {
		return false
	}
	l, lacking := f.lacks(counts)
	if !lacking {
		return true
	}
	f.tries--
	failed[string(label)] = true
	for _, i := range l.more {
		if i < from || counts[i] == f.many {
			continue
		}
		counts[i]++
		if f.raise(counts, from, failed) {
			return true
		}
		counts[i]--
	}
	return false
}
