package shards

import (
	"strconv"

	"dumbwaiter/api"
	"dumbwaiter/value"
)

// commands returns the commands of the console, by their words.
func commands() map[string]command {
	return map[string]command{
		"as": {"N", func(x *console, o operands) (words, api.Errno) {
			x.list = &list{tenant: o.numbers[0], labels: map[string]bool{}}
			return nil, api.OK
		}},
		"make": {"LE", func(x *console, o operands) (words, api.Errno) {
			return nil, x.list.give(o.labels[0], api.Act{Kind: api.ActMake, Entity: o.names[0]})
		}},
		"get": {"LEN", func(x *console, o operands) (words, api.Errno) {
			return nil, x.list.give(o.labels[0], api.Act{Kind: api.ActGet, Entity: o.names[0], N: o.numbers[0]})
		}},
		"set": {"LEV", func(x *console, o operands) (words, api.Errno) {
			return nil, x.list.use(api.Act{Kind: api.ActSet, Name: o.names[0], Value: o.value}, o.labels...)
		}},
		"point": {"LEP", func(x *console, o operands) (words, api.Errno) {
			return nil, x.list.use(api.Act{Kind: api.ActPoint, Name: o.names[0]}, o.labels...)
		}},
		"save": {"L", func(x *console, o operands) (words, api.Errno) {
			return nil, x.list.use(api.Act{Kind: api.ActSave}, o.labels...)
		}},
		"remove": {"L", func(x *console, o operands) (words, api.Errno) {
			return nil, x.list.use(api.Act{Kind: api.ActRemove}, o.labels...)
		}},
		"do":   {"", (*console).do},
		"find": {"NE", (*console).find},
		"show": {"ENN", (*console).show},
		"move": {"NN", func(x *console, o operands) (words, api.Errno) {
			return nil, x.cluster.Move(o.numbers[0], o.numbers[1])
		}},
		"step":   {"N", (*console).step},
		"abort":  {"N", func(x *console, o operands) (words, api.Errno) { return nil, x.cluster.Abort(o.numbers[0]) }},
		"crash":  {"", (*console).crash},
		"places": {"", (*console).places},
		"count":  {"N", (*console).count},
	}
}

// do plays the list of acts.
func (x *console) do(operands) (words, api.Errno) {
	if x.list == nil {
		return nil, api.ErrState
	}
	l := x.list
	x.list = nil
	outcomes, err := l.play(x)
	for _, o := range outcomes {
		if err == api.OK {
			err = o.Error
		}
	}
	return nil, err
}

// find tells which objects there are.
func (x *console) find(o operands) (words, api.Errno) {
	rows, err := x.cluster.Find(x.token, 0, api.Find{Entity: o.names[0], Tenant: o.numbers[0], Limit: -1}, nil)
	w := words{}.number(len(rows))
	for _, row := range rows {
		w = w.number(row[2].N)
	}
	return w, err
}

// show tells the values and references of an object.
func (x *console) show(o operands) (words, api.Errno) {
	object, there := x.cluster.object(o.names[0], o.numbers[0], o.numbers[1])
	if !there {
		return nil, api.ErrNone
	}
	var w words
	for _, v := range object.Values {
		w = append(w, value.Show(v))
	}
	for _, id := range object.Ones {
		w = w.number(id)
	}
	return w, api.OK
}

// step makes a step of a move.
func (x *console) step(o operands) (words, api.Errno) {
	done, err := x.cluster.Step(o.numbers[0])
	return words{strconv.FormatBool(done)}, err
}

// crash lets the cluster crash.
func (x *console) crash(operands) (words, api.Errno) {
	x.cluster.Crash()
	return nil, api.OK
}

// places tells the directory.
func (x *console) places(operands) (words, api.Errno) {
	var w words
	for _, p := range x.cluster.Places() {
		w = w.number(p.Tenant).number(p.Shard).number(p.To).number(p.State)
	}
	return w, api.OK
}

// count tells how many rows a shard has.
func (x *console) count(o operands) (words, api.Errno) {
	d, err := x.cluster.Rows(o.numbers[0])
	n := 0
	for _, t := range d.Tables {
		n += len(t.Rows)
	}
	return words{}.number(n), err
}

// list is a list of acts for a tenant, with labels in the place of handles.
type list struct {
	tenant int
	steps  []step
	labels map[string]bool // those that were given
}

// step is an act, the label that it gives, and those that it uses (- for nothing).
type step struct {
	act   api.Act
	gives string
	uses  []string
}

// give adds an act that gives a label.
func (l *list) give(label string, a api.Act) api.Errno {
	if l == nil {
		return api.ErrState
	}
	l.labels[label] = true
	l.steps = append(l.steps, step{act: a, gives: label})
	return api.OK
}

// use adds an act that uses labels.
func (l *list) use(a api.Act, labels ...string) api.Errno {
	if l == nil {
		return api.ErrState
	}
	for _, label := range labels {
		if label != "-" && !l.labels[label] {
			return api.ErrName
		}
	}
	l.steps = append(l.steps, step{act: a, uses: labels})
	return api.OK
}

// notGiven is a handle that no session gives.
const notGiven = -1

// play plays the acts and a commit.
func (l *list) play(x *console) ([]api.Outcome, api.Errno) {
	handles := map[string]int{}
	p := plan{handles: func(i int, done []api.Outcome) (int, int) {
		if i > 0 && l.steps[i-1].gives != "" {
			handles[l.steps[i-1].gives] = notGiven
			if o := done[i-1]; o.Error == api.OK {
				handles[l.steps[i-1].gives] = o.Handles[0]
			}
		}
		var h [2]int
		if i < len(l.steps) {
			for k, label := range l.steps[i].uses {
				h[k] = handles[label]
			}
		}
		return h[0], h[1]
	}}
	for _, s := range l.steps {
		p.acts = append(p.acts, s.act)
	}
	p.acts = append(p.acts, api.Act{Kind: api.ActCommit})
	if l.tenant == 0 {
		return x.cluster.shared(x.token, 0, p)
	}
	return x.cluster.work(x.token, l.tenant, 0, p)
}
