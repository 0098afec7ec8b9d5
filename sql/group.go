package sql

import (
	"dumbwaiter/api"
	"dumbwaiter/value"
)

// aggregate is an XAgg of a select.
type aggregate struct {
	op       int
	distinct bool
	arg      code
}

// aggregate returns the code of an XAgg, and adds it to those of its layer.
func (g *engine) aggregate(e api.Expr, l *layer) code {
	l.aggregates = append(l.aggregates, aggregate{e.Op, e.Distinct, g.argOfCount(e, l.rows)})
	return found(0, len(l.group)+len(l.aggregates)-1)
}

// argOfCount returns the code of the Arg of an XAgg or XWindow. One that counts rows counts a value in each of them.
func (g *engine) argOfCount(e api.Expr, l *layer) code {
	if len(e.Args) == 0 {
		return constant(value.Bool(true))
	}
	return g.code(e.Args[0], l)
}

// group is a group of rows.
type group struct {
	values  []api.Value
	tallies []*tally
}

// newGroup returns a group without rows.
func (b *block) newGroup(values []api.Value) *group {
	return &group{values, mapped(b.aggregates, func(a aggregate) *tally { return newTally(a.distinct) })}
}

// groups visits the groups of a select, each of them by what the frame has found.
func (b *block) groups(f *frame, visit func() bool) {
	var l []*group
	byKey := map[string]*group{}
	if len(b.group) == 0 {
		l = append(l, b.newGroup(nil))
		byKey[""] = l[0]
	}
	b.each(f, func() bool {
		values := f.values(b.group)
		key := string(value.Key(values))
		if byKey[key] == nil {
			byKey[key] = b.newGroup(values)
			l = append(l, byKey[key])
		}
		for i, a := range b.aggregates {
			byKey[key].tallies[i].add(a.arg(f))
		}
		return true
	})
	for _, x := range l {
		f.found = x.values
		for i, a := range b.aggregates {
			f.found = append(f.found, x.tallies[i].value(a.op))
		}
		visit()
	}
}

// tally counts values that are not null.
type tally struct {
	seen        map[api.Value]bool // nil: equal values count each
	count       int
	sum         total
	least, most api.Value
}

func newTally(distinct bool) *tally {
	if distinct {
		return &tally{seen: map[api.Value]bool{}}
	}
	return &tally{}
}

// add adds a value.
func (t *tally) add(v api.Value) {
	if v.Kind == api.Null || t.seen[v] {
		return
	}
	if t.seen != nil {
		t.seen[v] = true
	}
	if t.count == 0 || value.Compare(v, t.least) < 0 {
		t.least = v
	}
	if value.Compare(v, t.most) > 0 { // so is every value if there is none yet
		t.most = v
	}
	if v.Kind == api.Int {
		t.sum.add(v.N)
	}
	t.count++
}

// value returns what an XAgg says of the values.
func (t *tally) value(op int) api.Value {
	switch {
	case op == api.AggLeast:
		return t.least
	case op == api.AggMost:
		return t.most
	case op != api.AggSum:
		return api.Value{Kind: api.Int, N: t.count}
	case t.count == 0:
		return api.Value{}
	}
	return t.sum.value()
}

// total is a sum of Ints: low, and high times beyond. Sums of many Ints do not fit an int.
type total struct{ high, low int }

// beyond is the least number that is too great for an Int.
const beyond = api.MaxInt + 1

// add adds an Int.
func (t *total) add(n int) {
	t.low += n
	switch {
	case t.low >= beyond:
		t.high, t.low = t.high+1, t.low-beyond
	case t.low <= -beyond:
		t.high, t.low = t.high-1, t.low+beyond
	}
}

// value returns the sum, null if it is not right.
func (t *total) value() api.Value {
	switch {
	case t.high == 0:
		return api.Value{Kind: api.Int, N: t.low}
	case t.high == 1 && t.low < 0, t.high == -1 && t.low > 0:
		return api.Value{Kind: api.Int, N: t.high*beyond + t.low}
	}
	return api.Value{}
}
