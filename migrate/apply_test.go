package migrate_test

import (
	"slices"
	"strconv"
	"testing"

	"dumbwaiter/api"
	"dumbwaiter/migrate"
	"dumbwaiter/schema"
	"dumbwaiter/store"
)

// P6.1: each change is made of what is behind the one before.
func TestApply(t *testing.T) {
	l := list(t, "rename shelf board", "move board note remark", "add board depth int default 3", "create tag", "column id int", "key id", "foreign up tag id", "end", "order board depth name place firm remark since", "cast board since int", "unindex box z", "drop tag")
	s, err := migrate.Apply(depot(t), l)
	want := readSchema(t,
		"table board", "column depth int default 3", "column name text", "column place int", "column firm bool default true", "column remark text null default 'none'", "column since int", "key name place",
		"table box", "column id int", "column size int null", "column label text default 'new'", "column open bool null default true", "column seen moment null", "key id", "unique byseen seen size", "index bysize size label",
		"table item", "column id int", "column box int null default 1", "column up int null", "column shelf text null", "column place int null", "column name text null", "column n int null", "column spare bool null", "key id",
		"foreign box box box", "foreign shelf board shelf place", "foreign up item up", "index byname name n id",
	)
	if err != api.OK || !same(s, want) {
		t.Error(s, err)
	}
	s, d, at, err := migrate.Run(depot(t), stock(), l)
	if err != api.OK || at != 0 || !same(s, want) {
		t.Error(s, at, err)
	}
	boards := [][]api.Value{
		row(integer(3), text("left"), integer(1), boolean(1), null, integer(0)),
		row(integer(3), text("left"), integer(2), boolean(0), text("low"), integer(1)),
		row(integer(3), text("right"), integer(1), boolean(1), text(""), integer(2)),
	}
	if !same(rowsOf(d, "board"), boards) || !same(rowsOf(d, "item"), rowsOf(stock(), "item")) || len(d.Tables) != 3 || schema.CheckData(s, d) != api.OK {
		t.Error(d)
	}
	s, d, at, err = migrate.Run(depot(t), stock(), nil)
	if !same(s, depot(t)) || !same(d, stock()) || at != 0 || err != api.OK {
		t.Error(s, d, at, err)
	}
}

// running is what Run is asked.
type running struct {
	S api.Schema
	D api.Data
	L []api.Change
}

// drops are so many changes that take one another back.
func drops(n int) []api.Change {
	up := api.Change{Kind: api.ChRename, Table: "box", Name: "case"}
	down := api.Change{Kind: api.ChRename, Table: "case", Name: "box"}
	return slices.Repeat([]api.Change{up, down}, n/2)
}

// listFaults are the errors of all functions with a schema and a list, in order.
func listFaults() []fault[running] {
	return []fault[running]{
		{"S", func(x *running) { slices.Reverse(x.S.Tables) }, api.ErrOrder},
		{"S", func(x *running) { x.S.Tables[1].Key = nil }, api.ErrForm},
		{"large", func(x *running) { x.L = append(x.L, drops(api.MaxChanges)...) }, api.ErrLarge},
		{"0", func(x *running) { x.L[0].Kind = 0 }, api.ErrKind},
		{"0", func(x *running) { x.L[0].Column.Name = "x" }, api.ErrForm},
		{"0", func(x *running) { x.L[0].Table = "none" }, api.ErrName},
		{"1", func(x *running) { x.L[1].Name = "id" }, api.ErrRef},
		{"1", func(x *running) { x.L[1].Name = "note" }, api.ErrName},
		{"2", func(x *running) { x.L[2].Column.Name = "name" }, api.ErrTwice},
		{"2", func(x *running) { x.L[2].Column.Kind = 9 }, api.ErrKind},
	}
}

// listBase is right arguments for them.
func listBase(t testing.TB) running {
	return running{depot(t), stock(), list(t, "rename item thing", "remove thing spare", "add thing more int default 1")}
}

// P6.1: errors of Apply, which all functions with a schema and a list have first.
func TestListErrors(t *testing.T) {
	for name, check := range map[string]func(x running) api.Errno{
		"Apply":  func(x running) api.Errno { _, err := migrate.Apply(x.S, x.L); return err },
		"Run":    func(x running) api.Errno { _, _, _, err := migrate.Run(x.S, x.D, x.L); return err },
		"Back":   func(x running) api.Errno { _, err := migrate.Back(x.S, x.L); return err },
		"Lost":   func(x running) api.Errno { _, err := migrate.Lost(x.S, x.L); return err },
		"Risks":  func(x running) api.Errno { _, err := migrate.Risks(x.S, x.L); return err },
		"Locks":  func(x running) api.Errno { _, err := migrate.Locks(x.S, x.L); return err },
		"Squash": func(x running) api.Errno { _, err := migrate.Squash(x.S, x.L); return err },
	} {
		t.Run(name, func(t *testing.T) { tryFaults(t, listBase(t), check, listFaults()) })
	}
	for n, want := range map[int]api.Errno{api.MaxChanges: api.OK, api.MaxChanges + 2: api.ErrLarge} {
		s, err := migrate.Apply(depot(t), drops(n))
		if err != want || err == api.OK && !same(s, depot(t)) {
			t.Error(n, err)
		}
	}
}

// P6.1: errors of Run, and the number of the change.
func TestRunErrors(t *testing.T) {
	tryFaults(t, listBase(t), func(x running) api.Errno { _, _, _, err := migrate.Run(x.S, x.D, x.L); return err }, append(listFaults(),
		fault[running]{"D", func(x *running) { x.D.Tables = x.D.Tables[1:] }, api.ErrForm},
		fault[running]{"D", func(x *running) { slices.Reverse(x.D.Tables[2].Rows) }, api.ErrOrder},
		fault[running]{"D", func(x *running) { x.D.Tables[1].Rows[3][4] = integer(1); x.D.Tables[1].Rows[3][3] = text("none") }, api.ErrRef},
	))
	for _, x := range []struct {
		at   int
		want api.Errno
		l    []string
	}{
		{2, api.ErrLost, []string{"rename box case", "default case label null", "cast case label int"}},
		{0, api.ErrLost, []string{"cast item n moment", "cast item name bool"}},
		{2, api.ErrNull, []string{"tight item name 'x'", "loose item name", "tight item up null"}},
		{1, api.ErrKey, []string{"unindex box z", "unique box z open"}},
		{1, api.ErrKey, []string{"move item n m", "unique item z m"}},
		{0, api.ErrRef, []string{"foreign item n box n"}},
		{1, api.ErrRef, []string{"default item box 3", "tight item up 1"}},
		// What can be wrong with the schema comes first.
		{0, api.ErrName, []string{"default box label null", "cast box label int", "drop none"}},
	} {
		data := stock()
		data.Tables[1].Rows[0][6] = integer(-1)
		s, d, at, err := migrate.Run(depot(t), data, list(t, x.l...))
		if err != x.want || at != x.at || !same(s, api.Schema{}) || !same(d, api.Data{}) {
			t.Error(x, s, d, at, err)
		}
	}
}

// P6.1: Run is store.Changed for one change after another.
func TestRunAtRandom(t *testing.T) {
	errors := map[api.Errno]int{}
	randomly(t, 500, func(t *testing.T, r *maker) {
		s := r.schema()
		l, want := r.changes(s, r.Intn(12))
		if got, err := migrate.Apply(s, l); err != api.OK || !same(got, want) {
			t.Error(got, want, err)
		}
		d := r.data(s)
		got, rows, at, err := migrate.Run(s, d, l)
		number, wrong := 0, api.OK
		for i, c := range l {
			if s, d, wrong = store.Changed(s, d, c); wrong != api.OK {
				number = i
				break
			}
		}
		errors[err]++
		if err != wrong || at != number || !same(got, s) || !same(rows, d) {
			t.Error(at, err, number, wrong)
		}
	})
	for _, err := range []api.Errno{api.OK, api.ErrLost, api.ErrNull, api.ErrKey, api.ErrRef} {
		if errors[err] == 0 {
			t.Error(strconv.Itoa(int(err)), errors)
		}
	}
}
