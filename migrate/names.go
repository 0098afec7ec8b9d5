package migrate

import (
	"slices"
	"strconv"
)

// naming is a new name for what has an old one.
type naming struct{ from, to string }

// namings returns how things get their new names one after another, so that no two have the same one at any time. In a circle (all names that are still wanted are taken then) the first one makes room by a name that none has.
func namings(l []naming) []naming {
	taken := map[string]bool{}
	for _, x := range l {
		taken[x.from] = true
	}
	left := slices.DeleteFunc(slices.Clone(l), func(x naming) bool { return x.from == x.to })
	var done []naming
	give := func(x naming) {
		done = append(done, x)
		delete(taken, x.from)
		taken[x.to] = true
	}
	for len(left) > 0 {
		place := slices.IndexFunc(left, func(x naming) bool { return !taken[x.to] })
		if place < 0 {
			room := spare(taken)
			give(naming{left[0].from, room})
			left[0].from = room
			continue
		}
		give(left[place])
		left = slices.Delete(left, place, place+1)
	}
	return done
}

// spare returns a name that is not taken.
func spare(taken map[string]bool) string {
	number := 0
	for taken["spare"+strconv.Itoa(number)] {
		number++
	}
	return "spare" + strconv.Itoa(number)
}
