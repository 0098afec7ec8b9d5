package migrate_test

import (
	"slices"
	"strconv"
	"testing"

	"dumbwaiter/api"
	"dumbwaiter/migrate"
)

// links is a chain of the depot.
func links(t testing.TB) []api.Migration {
	t.Helper()
	return []api.Migration{
		{Number: 3, Name: "more", Up: list(t, "add item x int null", "index item byx x"), Down: list(t, "unindex item byx", "remove item x")},
		{Number: 4, Name: "name", Up: list(t, "move item x y", "rename item thing"), Down: list(t, "rename thing item", "move item y x")},
		{Number: 7, Name: "void"},
		{Number: 20, Name: "dog", Up: list(t, "create dog", "column id int", "key id", "end", "foreign dog box box id", "loose shelf firm"), Down: list(t, "drop dog", "tight shelf firm true")},
	}
}

// chaining is what Join is asked.
type chaining struct {
	S        api.Schema
	L        []api.Migration
	From, To int
	Name     string
}

// chainings are right arguments.
func chainings(t testing.TB) chaining { return chaining{depot(t), links(t), 4, 20, "joined"} }

// chainFaults are the errors of CheckChain, in order.
func chainFaults() []fault[chaining] {
	return []fault[chaining]{
		{"S", func(x *chaining) { slices.Reverse(x.S.Tables) }, api.ErrOrder},
		{"large", func(x *chaining) { x.L = append(x.L, make([]api.Migration, api.MaxMigrations)...) }, api.ErrLarge},
		{"0", func(x *chaining) { x.L[0].Number = 0 }, api.ErrArg},
		{"0", func(x *chaining) { x.L[0].Up[0].Column.Name = "" }, api.ErrName},
		{"0", func(x *chaining) { x.L[0].Up[0].Column.Name = "n" }, api.ErrTwice},
		{"0", func(x *chaining) { x.L[0].Up[1].Index.Columns = nil }, api.ErrForm},
		{"0", func(x *chaining) { x.L[0].Down[0].Name = "none" }, api.ErrName},
		{"0", func(x *chaining) { x.L[0].Down = x.L[0].Down[1:] }, api.ErrRef},
		{"0", func(x *chaining) { x.L[0].Down = nil }, api.ErrForm},
		{"0", func(x *chaining) { x.L[0].Down = x.L[0].Down[:1] }, api.ErrForm},
		{"1", func(x *chaining) { x.L[1].Name = "Name" }, api.ErrName},
		{"1", func(x *chaining) { x.L[1].Number = 3 }, api.ErrOrder},
		{"1", func(x *chaining) { x.L[1].Number = 2 }, api.ErrOrder},
		{"1", func(x *chaining) { x.L[1].Up[1].Name = "box" }, api.ErrTwice},
		{"1", func(x *chaining) { x.L[1].Down[1].Name2 = "id" }, api.ErrTwice},
		{"1", func(x *chaining) { x.L[1].Down[1].Name2 = "z" }, api.ErrForm},
		{"2", func(x *chaining) { x.L[2].Name = "" }, api.ErrName},
		{"2", func(x *chaining) { x.L[2].Number = 4 }, api.ErrOrder},
		{"3", func(x *chaining) { x.L[3].Down = x.L[3].Down[:1] }, api.ErrForm},
	}
}

// P6.13: errors of CheckChain.
func TestChainErrors(t *testing.T) {
	tryFaults(t, chainings(t), func(x chaining) api.Errno { return migrate.CheckChain(x.S, x.L) }, chainFaults())
	if err := migrate.CheckChain(depot(t), nil); err != api.OK {
		t.Error(err)
	}
	var many []api.Migration
	for i := range api.MaxMigrations {
		many = append(many, api.Migration{Number: i + 1, Name: "m", Up: drops(2), Down: drops(4)})
	}
	if err := migrate.CheckChain(depot(t), many); err != api.OK {
		t.Error(err)
	}
	if err := migrate.CheckChain(depot(t), append(many, api.Migration{Number: 500, Name: "m"})); err != api.ErrLarge {
		t.Error(err)
	}
	// The schema must be the same in everything.
	for _, l := range [][]string{{"default box size 3"}, {"loose shelf firm"}, {"cast box size text"}, {"order box size id label open seen"}, {"index box a id"}, {"foreign box a box id"}, {"rename box a"}, {"move box id a"}, {"unindex box z", "index box z label"}, {"unindex box z", "unique box z size"}, {"unindex box z"}, {"unforeign item up", "foreign item up item n"}, {"unforeign item up", "foreign item up box up"}, {"create a", "column id int", "key id", "end"}} {
		if err := migrate.CheckChain(depot(t), []api.Migration{{Number: 1, Name: "m", Up: list(t, l...)}}); err != api.ErrForm {
			t.Error(l, err)
		}
	}
}

// P6.13: errors of Join.
func TestJoinErrors(t *testing.T) {
	tryFaults(t, chainings(t), func(x chaining) api.Errno {
		l, err := migrate.Join(x.S, x.L, x.From, x.To, x.Name)
		if err != api.OK && l != nil {
			t.Error(l, err)
		}
		return err
	}, append(chainFaults(),
		fault[chaining]{"from", func(x *chaining) { x.From = 5 }, api.ErrNone},
		fault[chaining]{"from", func(x *chaining) { x.From = -1 }, api.ErrNone},
		fault[chaining]{"to", func(x *chaining) { x.To = 19 }, api.ErrNone},
		fault[chaining]{"to", func(x *chaining) { x.To = 3 }, api.ErrNone},
		fault[chaining]{"up", func(x *chaining) { x.L[2].Up = drops2(api.MaxChanges) }, api.ErrLarge},
		fault[chaining]{"down", func(x *chaining) { x.L[2].Down = drops2(api.MaxChanges) }, api.ErrLarge},
		fault[chaining]{"name", func(x *chaining) { x.Name = "" }, api.ErrName},
		fault[chaining]{"name", func(x *chaining) { x.Name = "a b" }, api.ErrName},
		fault[chaining]{"name", func(x *chaining) { x.Name = long(api.MaxTall + 1) }, api.ErrName},
	))
}

// drops2 is like drops, for a table that there is behind the renaming.
func drops2(n int) []api.Change {
	up := api.Change{Kind: api.ChRename, Table: "shelf", Name: "board"}
	down := api.Change{Kind: api.ChRename, Table: "board", Name: "shelf"}
	return slices.Repeat([]api.Change{up, down}, n/2)
}

// P6.13: the migrations that are joined.
func TestJoin(t *testing.T) {
	both := []string{"create dog", "column id int", "key id", "foreign box box id", "end"}
	for _, x := range []struct {
		from, to int
		left     []int
		up, down []string
	}{
		{3, 3, []int{3, 4, 7, 20}, []string{"add item x int null", "index item byx x"}, []string{"unindex item byx", "remove item x"}},
		{7, 7, []int{3, 4, 7, 20}, nil, nil},
		{3, 4, []int{4, 7, 20}, []string{"add item x int null", "index item byx x", "move item x y", "rename item thing"}, []string{"rename thing item", "move item y x", "unindex item byx", "remove item x"}},
		{4, 7, []int{3, 7, 20}, []string{"move item x y", "rename item thing"}, []string{"rename thing item", "move item y x"}},
		{7, 20, []int{3, 4, 20}, append(both, "loose shelf firm"), []string{"drop dog", "tight shelf firm true"}},
		{3, 20, []int{20}, slices.Concat([]string{"add item x int null", "index item byx x", "move item x y", "rename item thing"}, both, []string{"loose shelf firm"}), []string{"drop dog", "tight shelf firm true", "rename thing item", "move item y x", "unindex item byx", "remove item x"}},
	} {
		l, err := migrate.Join(depot(t), links(t), x.from, x.to, "joined")
		must(t, err, migrate.CheckChain(depot(t), l))
		for i, m := range l {
			if i >= len(x.left) || m.Number != x.left[i] {
				t.Error(x, l)
				continue
			}
			was := slices.IndexFunc(links(t), func(old api.Migration) bool { return old.Number == m.Number })
			want := links(t)[was]
			if m.Number == x.to {
				want = api.Migration{Number: x.to, Name: "joined", Up: list(t, x.up...), Down: list(t, x.down...)}
			}
			if m.Number == x.to && (written(t, m.Up) != written(t, want.Up) || written(t, m.Down) != written(t, want.Down) || m.Name != "joined") || m.Number != x.to && !same(m, want) {
				t.Error(x, m, want)
			}
		}
		if len(l) != len(x.left) {
			t.Error(x, l)
		}
	}
	// Together they can have MaxChanges changes.
	many := []api.Migration{{Number: 1, Name: "a", Up: drops(300), Down: drops2(300)}, {Number: 2, Name: "b", Up: drops2(300), Down: drops(300)}}
	if l, err := migrate.Join(depot(t), many, 1, 2, "c"); err != api.OK || !same(l, []api.Migration{{Number: 2, Name: "c"}}) {
		t.Error(l, err)
	}
	// All columns of a table are put in another order again and again, so that the text of three migrations is too long for one.
	var c []api.Column
	for i := range api.MaxColumns {
		c = append(c, api.Column{Name: long(36) + strconv.Itoa(100+i), Kind: api.Int})
	}
	s := api.Schema{Tables: []api.Table{{Name: "t", Columns: c, Key: []string{c[0].Name}}}}
	back := api.Change{Kind: api.ChOrder, Table: "t", Columns: []string{}}
	for _, x := range c {
		back.Columns = append(back.Columns, x.Name)
	}
	there := clone(back)
	slices.Reverse(there.Columns)
	m := api.Migration{Name: "a", Up: slices.Repeat([]api.Change{there, list(t, "loose t "+c[1].Name)[0], back, list(t, "tight t "+c[1].Name+" null")[0]}, 6)}
	many = nil
	for i := range 3 {
		m.Number = i + 1
		many = append(many, m)
	}
	if l, err := migrate.Join(s, many, 1, 3, "b"); err != api.ErrLarge || l != nil {
		t.Error(len(l), err)
	}
	if l, err := migrate.Join(s, many, 2, 3, "b"); err != api.OK || len(l) != 2 || len(l[1].Up) != 48 {
		t.Error(len(l), err)
	}
}

// P6.13: a chain that was joined leads where it led, and for data it does the same.
func TestJoinAtRandom(t *testing.T) {
	ran := 0
	randomly(t, 300, func(t *testing.T, r *maker) {
		s := r.schema()
		var l []api.Migration
		at := s
		for range 1 + r.Intn(5) {
			m := api.Migration{Number: 3*len(l) + 1 + r.Intn(3), Name: "m"}
			before := at
			m.Up, at = r.changes(before, r.Intn(6))
			down, err := migrate.Back(before, m.Up)
			must(t, err)
			m.Down = down
			l = append(l, m)
		}
		must(t, migrate.CheckChain(s, l))
		from := r.Intn(len(l))
		to := from + r.Intn(len(l)-from)
		j, err := migrate.Join(s, l, l[from].Number, l[to].Number, "j")
		must(t, err, migrate.CheckChain(s, j))
		d := r.data(s)
		_, want, err := through(s, d, l)
		if err != api.OK {
			return
		}
		ran++
		if behind, got, err := through(s, d, j); err != api.OK || !same(got, want) || !same(behind, at) {
			t.Error(l, j, err)
		}
	})
	if ran < 100 {
		t.Error(ran)
	}
}

// through runs all migrations of a chain.
func through(s api.Schema, d api.Data, l []api.Migration) (api.Schema, api.Data, api.Errno) {
	err := api.OK
	for _, m := range l {
		if s, d, _, err = migrate.Run(s, d, m.Up); err != api.OK {
			break
		}
	}
	return s, d, err
}
