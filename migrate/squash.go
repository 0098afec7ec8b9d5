package migrate

import (
	"dumbwaiter/api"
	"dumbwaiter/clone"
)

// Squash returns a shorter list with the same effect.
func Squash(s api.Schema, l []api.Change) ([]api.Change, api.Errno) {
	var short []api.Change
	_, err := walk(s, l, func(x step) { short = squashed(short, x.Change, x.after) })
	if err != api.OK {
		return nil, err
	}
	return clone.Changes(short), api.OK
}

// squashed returns a list, of which no two neighbours can be replaced, with a further change, behind which there is a schema. (What replaces two changes leads to the same schema as both.)
func squashed(l []api.Change, c api.Change, after api.Schema) []api.Change {
	for len(l) > 0 {
		last := len(l) - 1
		instead, ok := insteadOf(l[last], c, after)
		if !ok {
			break
		}
		l = l[:last]
		if len(instead) == 0 {
			return l
		}
		c = instead[0]
	}
	return append(l, c)
}

// pair is the kinds of two neighbouring changes.
type pair struct{ first, second int }

// insteadOf returns what replaces two neighbouring changes, which is one change or nothing, and whether they are replaced.
func insteadOf(c, d api.Change, after api.Schema) ([]api.Change, bool) {
	if c.Kind == api.ChCreate {
		return insteadOfCreate(c, d, after)
	}
	same := c.Table == d.Table
	switch (pair{c.Kind, d.Kind}) {
	case pair{api.ChAdd, api.ChRemove}:
		return nil, same && c.Column.Name == d.Name
	case pair{api.ChIndex, api.ChUnindex}:
		return nil, same && c.Index.Name == d.Name
	case pair{api.ChForeign, api.ChUnforeign}:
		return nil, same && c.Foreign.Name == d.Name
	case pair{api.ChAdd, api.ChMove}:
		ok := same && c.Column.Name == d.Name
		c.Column.Name = d.Name2
		return []api.Change{c}, ok
	case pair{api.ChRename, api.ChRename}:
		ok := c.Name == d.Table
		c.Name = d.Name
		return unless(c.Name == c.Table, c), ok
	case pair{api.ChMove, api.ChMove}:
		ok := same && c.Name2 == d.Name
		c.Name2 = d.Name2
		return unless(c.Name2 == c.Name, c), ok
	case pair{api.ChDefault, api.ChDefault}:
		return []api.Change{d}, same && c.Name == d.Name
	case pair{api.ChOrder, api.ChOrder}:
		return []api.Change{d}, same
	}
	return nil, false
}

// insteadOfCreate is insteadOf for a ChCreate and a further change: what is created at once is the table behind both.
func insteadOfCreate(c, d api.Change, after api.Schema) ([]api.Change, bool) {
	if d.Table != c.New.Name {
		return nil, false
	}
	name := d.Table
	switch d.Kind {
	case api.ChDrop:
		return nil, true
	case api.ChRename:
		name = d.Name
	}
	return []api.Change{{Kind: api.ChCreate, New: tableOf(after, name)}}, true
}

// unless returns a change, or nothing, if it is none.
func unless(none bool, c api.Change) []api.Change {
	if none {
		return nil
	}
	return []api.Change{c}
}
