package shards

import (
	"slices"
	"strconv"
)

// packing looks for lists of numbers: the number at each place is less than the size of this place, and no two of them are equal at all places of one of some lists of places.
type packing struct {
	sizes []int
	lists [][]int
	want  int
	keys  int   // how many different numbers there are at the places of the first list
	rest  []int // the places that the first list does not have
	used  []map[string]bool
	found [][]int
	best  [][]int
	tries int
}

// pack returns some lists of numbers, as many as are wanted, or as there can be, and how often it has tried one. It does not try more often than tries says: where that is too seldom, there could be more lists.
func pack(sizes []int, lists [][]int, want, tries int) ([][]int, int) {
	p := &packing{sizes: sizes, lists: slices.Clone(lists), tries: tries}
	slices.SortStableFunc(p.lists, func(a, b []int) int { return p.product(a) - p.product(b) })
	p.keys = p.product(p.lists[0])
	p.want = min(want, p.keys)
	for place := range sizes {
		if !slices.Contains(p.lists[0], place) {
			p.rest = append(p.rest, place)
		}
	}
	for range p.lists {
		p.used = append(p.used, map[string]bool{})
	}
	p.choose(0)
	return p.best, tries - p.tries
}

// product returns how many different numbers there are at some places, or a great number.
func (p *packing) product(places []int) int {
	n := 1
	for _, place := range places {
		n = min(n*p.sizes[place], 1<<20)
	}
	return n
}

// choose goes on with the numbers at the places of the first list from a key on, and reports whether all that is wanted is found then.
func (p *packing) choose(key int) bool {
	if len(p.found) > len(p.best) {
		p.best = slices.Clone(p.found)
	}
	switch {
	case len(p.best) == p.want:
		return true
	case p.tries <= 0 || p.keys-key < p.want-len(p.found):
		return false
	}
	row := make([]int, len(p.sizes))
	left := key
	for _, place := range p.lists[0] {
		row[place] = left % p.sizes[place]
		left /= p.sizes[place]
	}
	return p.fill(key, row, 0) || p.choose(key+1)
}

// fill goes on with the numbers at the other places from one of them on.
func (p *packing) fill(key int, row []int, at int) bool {
	if at == len(p.rest) {
		return p.keep(key, row)
	}
	place := p.rest[at]
	first := p.start(row, at)
	for i := range p.sizes[place] {
		row[place] = (first + i) % p.sizes[place]
		if p.fill(key, row, at+1) {
			return true
		}
		if p.tries <= 0 {
			break
		}
	}
	return false
}

// start returns the number with which the search at a place begins. Lines in a plane meet at most once: so most searches end at once.
func (p *packing) start(row []int, at int) int {
	sum, factor := 0, 1
	for _, place := range p.lists[0] {
		sum += row[place] * factor
		factor = factor * (at + 1) % (1 << 20)
	}
	return sum
}

// keep takes a list of numbers, if none of those before is equal at all places of a list, and goes on.
func (p *packing) keep(key int, row []int) bool {
	p.tries--
	var marks []string
	for i, l := range p.lists {
		mark := ""
		for _, place := range l {
			mark += strconv.Itoa(row[place]) + " "
		}
		if p.used[i][mark] {
			return false
		}
		marks = append(marks, mark)
	}
	for i, mark := range marks {
		p.used[i][mark] = true
	}
	p.found = append(p.found, slices.Clone(row))
	if p.choose(key + 1) {
		return true
	}
	p.found = p.found[:len(p.found)-1]
	for i, mark := range marks {
		delete(p.used[i], mark)
	}
	return false
}
