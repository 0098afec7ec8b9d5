package schema

import (
	"slices"

	"dumbwaiter/api"
)

// Order returns the names of the tables in an order, and of those in a circle.
func Order(s api.Schema) ([]string, []string, api.Errno) {
	if err := CheckSchema(s); err != api.OK {
		return nil, nil, err
	}
	refs := references(s)
	reached := make([][]bool, len(refs))
	for place := range refs {
		reached[place] = reach(refs, place)
	}
	var order, circles []string
	for place, t := range s.Tables {
		if slices.ContainsFunc(refs[place], func(other int) bool { return reached[other][place] }) {
			circles = append(circles, t.Name)
		}
	}
	stands := make([]bool, len(refs))
	ready := func(place int) bool {
		return !stands[place] && !slices.ContainsFunc(refs[place], func(other int) bool { return !stands[other] && !reached[other][place] })
	}
	for range refs {
		// Tables are sorted by name. One is always ready: a circle from which no way leads to others that do not stand.
		next := 0
		for !ready(next) {
			next++
		}
		stands[next] = true
		order = append(order, s.Tables[next].Name)
	}
	return order, circles, api.OK
}

// references returns, for each table, the other ones to which it has foreign keys.
func references(s api.Schema) [][]int {
	refs := make([][]int, len(s.Tables))
	for place, t := range s.Tables {
		for _, f := range t.Foreigns {
			if f.Table != t.Name {
				refs[place] = append(refs[place], tablePlace(s.Tables, f.Table))
			}
		}
	}
	return refs
}

// reach returns which tables are reached from one by foreign keys.
func reach(refs [][]int, from int) []bool {
	reached := make([]bool, len(refs))
	var visit func(place int)
	visit = func(place int) {
		for _, other := range refs[place] {
			if !reached[other] {
				reached[other] = true
				visit(other)
			}
		}
	}
	visit(from)
	return reached
}
