package migrate_test

import (
	"slices"
	"strings"
	"testing"

	"dumbwaiter/api"
	"dumbwaiter/migrate"
)

// naiveSquash replaces the first two neighbours for which the table of P6.10 says something, as long as there are any.
func naiveSquash(t *testing.T, s api.Schema, l []api.Change) []api.Change {
	t.Helper()
	for i := 0; i+1 < len(l); i++ {
		instead, ok := naiveInstead(t, s, l[:i], l[i], l[i+1])
		if ok {
			l = slices.Concat(l[:i], instead, l[i+2:])
			i = -1
		}
	}
	return l
}

// naiveInstead is what replaces two changes behind others, if something does.
func naiveInstead(t *testing.T, s api.Schema, before []api.Change, c, d api.Change) ([]api.Change, bool) {
	t.Helper()
	is := func(first, second int) bool { return c.Kind == first && d.Kind == second }
	switch {
	case is(api.ChCreate, api.ChDrop) && d.Table == c.New.Name:
		return nil, true
	case c.Kind == api.ChCreate && d.Table == c.New.Name:
		behind, err := migrate.Apply(s, append(slices.Clone(before), c, d))
		must(t, err)
		name := d.Table
		if d.Kind == api.ChRename {
			name = d.Name
		}
		for _, x := range behind.Tables {
			if x.Name == name {
				return []api.Change{{Kind: api.ChCreate, New: x}}, true
			}
		}
	case is(api.ChRename, api.ChRename) && d.Table == c.Name:
		c.Name = d.Name
		return []api.Change{c}[:count(c.Name != c.Table)], true
	}
	if d.Table != c.Table {
		return nil, false
	}
	switch {
	case is(api.ChAdd, api.ChRemove) && c.Column.Name == d.Name, is(api.ChIndex, api.ChUnindex) && c.Index.Name == d.Name, is(api.ChForeign, api.ChUnforeign) && c.Foreign.Name == d.Name:
		return nil, true
	case is(api.ChAdd, api.ChMove) && c.Column.Name == d.Name:
		c.Column.Name = d.Name2
		return []api.Change{c}, true
	case is(api.ChMove, api.ChMove) && c.Name2 == d.Name:
		c.Name2 = d.Name2
		return []api.Change{c}[:count(c.Name2 != c.Name)], true
	case is(api.ChDefault, api.ChDefault) && c.Name == d.Name, is(api.ChOrder, api.ChOrder):
		return []api.Change{d}, true
	}
	return nil, false
}

// count is 1 if a condition holds, otherwise 0.
func count(is bool) int {
	if is {
		return 1
	}
	return 0
}

// P6.10: each row of the table, and what it says nothing of.
func TestSquash(t *testing.T) {
	dog := []string{"create dog", "column id int", "key id", "foreign up dog id", "end"}
	behind := func(l []string, more ...string) []string { return slices.Concat(l, more) }
	for _, x := range [][2][]string{
		{nil, nil},
		// ChCreate.
		{behind(dog, "drop dog"), nil},
		{behind(dog, "drop item"), behind(dog, "drop item")},
		{behind(dog, "rename dog cat"), {"create cat", "column id int", "key id", "foreign up cat id", "end"}},
		{behind(dog, "rename item cat"), behind(dog, "rename item cat")},
		{behind(dog, "foreign item dog dog n"), behind(dog, "foreign item dog dog n")},
		{behind(dog, "foreign dog box box id"), {"create dog", "column id int", "key id", "foreign box box id", "foreign up dog id", "end"}},
		{behind(dog, "unforeign dog up", "cast dog id text", "move dog id key", "default dog key 'x'"), {"create dog", "column key text default 'x'", "key key", "end"}},
		{behind(dog, "add dog a bool null default true", "tight dog a false", "add dog b int null", "loose dog a", "order dog b a id", "index dog i b a", "unique dog h b", "unindex dog i", "add dog c int null", "remove dog c"), {"create dog", "column b int null", "column a bool null default true", "column id int", "key id", "foreign up dog id", "unique h b", "end"}},
		{behind(dog, "add dog a int null", "rename dog cat", "drop cat", "drop item"), {"drop item"}},
		{slices.Concat(dog, []string{"create cat", "column id int", "key id", "end", "add dog a int null", "drop cat"}), behind(dog, "create cat", "column id int", "key id", "end", "add dog a int null", "drop cat")},
		// ChAdd.
		{[]string{"add item x int null", "remove item x"}, nil},
		{[]string{"add item x int null", "remove item spare"}, []string{"add item x int null", "remove item spare"}},
		{[]string{"add item x int null", "add box x int null", "remove box x", "move item x y", "remove item y"}, nil},
		{[]string{"add item open int null", "remove box open"}, []string{"add item open int null", "remove box open"}},
		{[]string{"add item open int null", "move box open x"}, []string{"add item open int null", "move box open x"}},
		{[]string{"add item x int default 4", "move item x y"}, []string{"add item y int default 4"}},
		{[]string{"add item x int null", "move item n y"}, []string{"add item x int null", "move item n y"}},
		{[]string{"add item x int null", "default item x 3"}, []string{"add item x int null", "default item x 3"}},
		// ChIndex and ChForeign.
		{[]string{"index item i n", "unindex item i"}, nil},
		{[]string{"unique item i id", "unindex item byname"}, []string{"unique item i id", "unindex item byname"}},
		{[]string{"unique item z id", "unindex box z"}, []string{"unique item z id", "unindex box z"}},
		{[]string{"foreign item f box n", "unforeign item f"}, nil},
		{[]string{"foreign item f box n", "unforeign item up"}, []string{"foreign item f box n", "unforeign item up"}},
		{[]string{"foreign box up item size", "unforeign item up"}, []string{"foreign box up item size", "unforeign item up"}},
		{[]string{"unindex box z", "unique box z label"}, []string{"unindex box z", "unique box z label"}},
		// ChRename and ChMove.
		{[]string{"rename item a", "rename a b", "rename b c"}, []string{"rename item c"}},
		{[]string{"rename item a", "rename a item"}, nil},
		{[]string{"rename item a", "rename box item"}, []string{"rename item a", "rename box item"}},
		{[]string{"move item n a", "move item a b", "move item b c"}, []string{"move item n c"}},
		{[]string{"move item n a", "move item a n"}, nil},
		{[]string{"move item n a", "move item name n"}, []string{"move item n a", "move item name n"}},
		{[]string{"move item n size", "move box size n"}, []string{"move item n size", "move box size n"}},
		{[]string{"rename item a", "move a n m", "rename a item"}, []string{"rename item a", "move a n m", "rename a item"}},
		// ChDefault and ChOrder.
		{[]string{"default item n 1", "default item n 2", "default item n null"}, []string{"default item n null"}},
		{[]string{"default item n 1", "default item up 2"}, []string{"default item n 1", "default item up 2"}},
		{[]string{"default item id 1", "default box id 2"}, []string{"default item id 1", "default box id 2"}},
		{[]string{"order box open id size label seen", "order box size id open label seen"}, []string{"order box size id open label seen"}},
		{[]string{"order box open id size label seen", "order shelf place name note firm since"}, []string{"order box open id size label seen", "order shelf place name note firm since"}},
		// What is replaced has new neighbours, ahead and behind.
		{[]string{"default item n 1", "rename box a", "rename a box", "default item n 2"}, []string{"default item n 2"}},
		{[]string{"index item i n", "add item x int null", "move item x y", "remove item y", "unindex item i", "loose shelf firm"}, []string{"loose shelf firm"}},
	} {
		s, l := depot(t), list(t, x[0]...)
		got, err := migrate.Squash(s, l)
		if text := written(t, got); err != api.OK || text != strings.Join(append(x[1], ""), "\n") {
			t.Error(x[0], text, err)
		}
		if !same(got, naiveSquash(t, s, l)) {
			t.Error("naive", x)
		}
		want, _ := migrate.Apply(s, l)
		if after, err := migrate.Apply(s, got); err != api.OK || !same(after, want) {
			t.Error(x, after, err)
		}
	}
}

// P6.10: lists at random; for data for which there is no error, the result is the same.
func TestSquashAtRandom(t *testing.T) {
	shorter, ran := 0, 0
	randomly(t, 2000, func(t *testing.T, r *maker) {
		s := r.schema()
		l, after := r.busy(s, r.Intn(20))
		got, err := migrate.Squash(s, l)
		if want := naiveSquash(t, s, l); err != api.OK || !same(got, want) {
			t.Error(told(t, s), written(t, l), written(t, got), written(t, want), err)
			return
		}
		shorter += len(l) - len(got)
		for range 2 {
			d := r.data(s)
			_, want, _, err := migrate.Run(s, d, l)
			if err != api.OK {
				continue
			}
			ran++
			if behind, rows, _, err := migrate.Run(s, d, got); err != api.OK || !same(behind, after) || !same(rows, want) {
				t.Error(told(t, s), written(t, l), written(t, got), d, rows, err)
			}
		}
	})
	if shorter < 1000 || ran < 1000 {
		t.Error(shorter, ran)
	}
}

// busy is like changes, but several changes in a row are mostly of one table.
func (r *maker) busy(s api.Schema, n int) ([]api.Change, api.Schema) {
	var l []api.Change
	for len(l) < n {
		more, next := r.changes(s, 1)
		c := more[0]
		if last := len(l) - 1; last >= 0 && r.Intn(4) > 0 {
			of := l[last].Table
			switch l[last].Kind {
			case api.ChCreate:
				of = l[last].New.Name
			case api.ChRename:
				of = l[last].Name
			}
			if c.Table != of && slices.ContainsFunc(s.Tables, func(t api.Table) bool { return t.Name == of }) {
				continue
			}
		}
		l, s = append(l, c), next
	}
	return l, s
}
