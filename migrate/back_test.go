package migrate_test

import (
	"slices"
	"strings"
	"testing"

	"dumbwaiter/api"
	"dumbwaiter/migrate"
	"dumbwaiter/value"
)

// P6.6: the inverse of each change.
func TestBack(t *testing.T) {
	create := []string{"create shelf", "column name text", "column place int", "column note text null default 'none'", "column firm bool default true", "column since moment", "key name place", "end"}
	for _, x := range [][2][]string{
		{nil, nil},
		{create, {"drop shelf"}},
		{{"unforeign item shelf", "drop shelf"}, slices.Concat(create, []string{"foreign item shelf shelf shelf place"})},
		{{"rename shelf board"}, {"rename board shelf"}},
		{{"add box x int null"}, {"remove box x"}},
		// ChRemove: the last column or another one; whether it can be null and has a Default.
		{{"remove item spare"}, {"add item spare bool null"}},
		{{"remove shelf firm"}, {"add shelf firm bool default true", "order shelf name place note firm since"}},
		{{"remove shelf since"}, {"add shelf since moment default @1970-01-01T00:00:00", "default shelf since null"}},
		{{"order shelf since note name place firm", "remove shelf since"}, {"add shelf since moment default @1970-01-01T00:00:00", "default shelf since null", "order shelf since note name place firm", "order shelf name place note firm since"}},
		{{"default shelf firm null", "remove shelf firm"}, {"add shelf firm bool default false", "default shelf firm null", "order shelf name place note firm since", "default shelf firm true"}},
		{{"cast shelf firm int", "default shelf firm null", "remove shelf firm"}, {"add shelf firm int default 0", "default shelf firm null", "order shelf name place note firm since", "default shelf firm 1", "cast shelf firm bool"}},
		{{"cast shelf since text", "remove shelf since"}, {"add shelf since text default ''", "default shelf since null", "cast shelf since moment"}},
		{{"remove shelf note"}, {"add shelf note text null default 'none'", "order shelf name place note firm since"}},
		{{"move box size x"}, {"move box x size"}},
		// ChCast: with a Default that comes back as another one, as it was, or null.
		{{"default item box 3", "cast box open int"}, {"cast box open bool", "default item box 1"}},
		{{"default item n 5", "cast item n bool"}, {"cast item n int", "default item n 5", "default item n null"}},
		{{"default item n 1", "cast item n bool"}, {"cast item n int", "default item n null"}},
		{{"default item n 5", "cast item n text"}, {"cast item n int", "default item n null"}},
		{{"cast item n text"}, {"cast item n int"}},
		// ChLoose: with a Default or without one.
		{{"loose shelf firm"}, {"tight shelf firm true"}},
		{{"loose shelf since"}, {"tight shelf since @1970-01-01T00:00:00", "default shelf since null"}},
		{{"default box label null", "loose box label"}, {"tight box label ''", "default box label null", "default box label 'new'"}},
		// ChTight: whether its own Default was null.
		{{"tight box open false"}, {"loose box open"}},
		{{"tight box open null"}, {"loose box open"}},
		{{"tight box size 3"}, {"loose box size", "default box size null"}},
		{{"tight box size null"}, {"loose box size", "default box size null"}},
		{{"default item box 1"}, {"default item box 1"}},
		{{"default item box null"}, {"default item box 1"}},
		{{"default item n 4"}, {"default item n null"}},
		{{"index item a n spare"}, {"unindex item a"}},
		{{"unique item a n spare"}, {"unindex item a"}},
		{{"unindex box byseen"}, {"unique box byseen seen size"}},
		{{"unindex item byname"}, {"index item byname name n id"}},
		{{"foreign item a box n"}, {"unforeign item a"}},
		{{"unforeign item shelf"}, {"foreign item shelf shelf shelf place"}},
		{{"order box open id size label seen"}, {"order box id size label open seen"}},
		{{"order box id size label open seen"}, {"order box id size label open seen"}},
	} {
		s := depot(t)
		if len(x[0]) == len(create) {
			s, _ = migrate.Apply(s, list(t, "unforeign item shelf", "drop shelf"))
		}
		l := list(t, x[0]...)
		b, err := migrate.Back(s, l)
		if got := written(t, b); err != api.OK || got != strings.Join(append(x[1], ""), "\n") {
			t.Error(x[0], got, err)
		}
		after, err := migrate.Apply(s, l)
		must(t, err)
		if got, err := migrate.Apply(after, b); err != api.OK || !same(got, s) {
			t.Error(x[0], got, err)
		}
	}
}

// P6.6: a way back that is too long.
func TestBackErrors(t *testing.T) {
	// Back has three changes for the first one.
	l := slices.Repeat(list(t, "remove t x", "add t x int default 0", "default t x null", "order t id x y"), api.MaxChanges/6)
	s := tables(t, "t id:int x:int y:int")
	if b, err := migrate.Back(s, l); err != api.OK || len(b) != api.MaxChanges {
		t.Error(len(b), err)
	}
	if b, err := migrate.Back(s, append(l, list(t, "loose t x")...)); err != api.ErrLarge || b != nil {
		t.Error(len(b), err)
	}
}

// P6.6, P6.7: Back leads back, for schemas, and for data but for what Lost tells.
func TestBackAtRandom(t *testing.T) {
	rows, lost := 0, 0
	randomly(t, 2000, func(t *testing.T, r *maker) {
		s := r.schema()
		l, after := r.changes(s, r.Intn(14))
		b, err := migrate.Back(s, l)
		must(t, err)
		if got, err := migrate.Apply(after, b); err != api.OK || !same(got, s) {
			t.Error(told(t, s), written(t, l), written(t, b), got, err)
			return
		}
		losses, err := migrate.Lost(s, l)
		must(t, err)
		for range 3 {
			d := r.data(s)
			_, there, _, err := migrate.Run(s, d, l)
			if err != api.OK {
				continue
			}
			_, back, _, err := migrate.Run(after, there, b)
			if err != api.OK {
				continue
			}
			lost += len(losses)
			want, got := kept(s, d, losses), kept(s, back, losses)
			for i := range want {
				rows += len(want[i])
			}
			if !same(want, got) {
				t.Error(told(t, s), written(t, l), losses, d, back)
			}
		}
	})
	if rows < 1000 || lost < 100 {
		t.Error(rows, lost)
	}
}

// kept is the rows of data without what is lost; sorted by what is left, if the key has lost something.
func kept(s api.Schema, d api.Data, losses []api.Loss) [][][]api.Value {
	var l [][][]api.Value
	for i, table := range s.Tables {
		rows, moved := clone(d.Tables[i].Rows), false
		for _, x := range losses {
			if x.Table != table.Name {
				continue
			}
			if x.Kind == api.LostTable {
				rows = nil
			}
			for _, row := range rows {
				row[place(table, x.Column)] = null
			}
			moved = moved || slices.Contains(table.Key, x.Column)
		}
		if moved {
			slices.SortFunc(rows, value.CompareLists)
		}
		l = append(l, rows)
	}
	return l
}
