package migrate_test

import (
	"slices"
	"strconv"
	"testing"

	"dumbwaiter/api"
	"dumbwaiter/migrate"
	"dumbwaiter/schema"
	"dumbwaiter/store"
)

// history is the table of what a store has had.
func history() []string {
	return []string{"table history_", "column number int", "column sum text", "key number"}
}

// stocked is a store with the stock of the depot.
func stocked(t testing.TB) *store.Store {
	t.Helper()
	return filled(t, depot(t), stock())
}

// sumOf is the sum of a migration.
func sumOf(t testing.TB, m api.Migration) uint64 {
	t.Helper()
	sum, err := migrate.Sum(m)
	must(t, err)
	return sum
}

// applied is what says that a store has had some migrations.
func applied(t testing.TB, l ...api.Migration) []api.Applied {
	t.Helper()
	var done []api.Applied
	for _, m := range l {
		done = append(done, api.Applied{Number: m.Number, Sum: sumOf(t, m)})
	}
	return done
}

// state is all that can be seen of a store.
func state(db *store.Store) []any { return []any{db.Schema(), db.Data(), db.Log(), db.Commits()} }

// P6.14: what a store has had, and tables that do not tell it.
func TestStatus(t *testing.T) {
	db := stocked(t)
	before := state(db)
	if done, err := migrate.Status(db); len(done) > 0 || err != api.OK || !sameResults(state(db), before) {
		t.Error(done, err)
	}
	pair := func(n int, sum string) []api.Value { return row(integer(n), text(sum)) }
	for _, x := range []struct {
		rows [][]api.Value
		want []api.Applied
		err  api.Errno
	}{
		{nil, nil, api.OK},
		{[][]api.Value{pair(-3, "0"), pair(2, "18446744073709551615"), pair(10, "1234567890123456789")}, []api.Applied{{Number: -3}, {Number: 2, Sum: 1<<64 - 1}, {Number: 10, Sum: 1234567890123456789}}, api.OK},
		{[][]api.Value{pair(1, "18446744073709551616")}, nil, api.ErrForm},
		{[][]api.Value{pair(1, "5"), pair(2, "")}, nil, api.ErrForm},
		{[][]api.Value{pair(1, "05"), pair(2, "5")}, nil, api.ErrForm},
		{[][]api.Value{pair(1, "-1")}, nil, api.ErrForm},
		{[][]api.Value{pair(1, "+1")}, nil, api.ErrForm},
		{[][]api.Value{pair(1, "'1'")}, nil, api.ErrForm},
		{[][]api.Value{pair(1, "1_0")}, nil, api.ErrForm},
		{[][]api.Value{pair(1, "0x1")}, nil, api.ErrForm},
		{[][]api.Value{pair(1, " 1")}, nil, api.ErrForm},
		{[][]api.Value{pair(1, "00")}, nil, api.ErrForm},
		{[][]api.Value{pair(1, "a")}, nil, api.ErrForm},
	} {
		db := filled(t, readSchema(t, history()...), api.Data{Tables: []api.TableRows{{Table: "history_", Rows: x.rows}}})
		before := state(db)
		got, err := migrate.Status(db)
		if !same(got, x.want) || err != x.err || !sameResults(state(db), before) {
			t.Error(x, got, err)
		}
		if n, err := migrate.Deploy(db, nil); x.err != api.OK && (n != 0 || err != x.err) {
			t.Error(x, n, err)
		}
		if n, err := migrate.Revert(db, nil, 0); x.err != api.OK && (n != 0 || err != x.err) {
			t.Error(x, n, err)
		}
	}
	for _, l := range [][]string{
		{"table history_", "column number int", "column sum text", "column more int", "key number"},
		{"table history_", "column number int", "key number"},
		{"table history_", "column sum text", "column number int", "key number"},
		{"table history_", "column number int", "column sum text", "key number sum"},
		{"table history_", "column number int", "column sum text", "key sum"},
		{"table history_", "column number int", "column sum text null", "key number"},
		{"table history_", "column number int", "column sum text default ''", "key number"},
		{"table history_", "column number int default 1", "column sum text", "key number"},
		{"table history_", "column number int", "column sum int", "key number"},
		{"table history_", "column number text", "column sum text", "key number"},
		{"table history_", "column n int", "column sum text", "key n"},
		{"table history_", "column number int", "column sum text", "key number", "index i sum"},
		{"table history_", "column number int", "column sum text", "key number", "foreign f history_ number"},
	} {
		db, err := store.New(readSchema(t, l...))
		must(t, err)
		if got, err := migrate.Status(db); got != nil || err != api.ErrForm {
			t.Error(l, got, err)
		}
		if n, err := migrate.Deploy(db, links(t)); n != 0 || err != api.ErrForm {
			t.Error(l, n, err)
		}
		if n, err := migrate.Revert(db, links(t), 0); n != 0 || err != api.ErrForm {
			t.Error(l, n, err)
		}
	}
	// A table with a name that is almost this one has nothing to do with it.
	db = filled(t, readSchema(t, "table history", "column number int", "key number"), api.Data{Tables: []api.TableRows{{Table: "history", Rows: [][]api.Value{row(integer(1))}}}})
	if done, err := migrate.Status(db); len(done) > 0 || err != api.OK {
		t.Error(done, err)
	}
}

// pending is what Pending is asked.
type pending struct {
	L    []api.Migration
	Done []api.Applied
}

// pendingFaults are the errors of Pending, in order.
func pendingFaults() []fault[pending] {
	return []fault[pending]{
		{"large", func(x *pending) { x.L = append(x.L, make([]api.Migration, api.MaxMigrations)...) }, api.ErrLarge},
		{"0", func(x *pending) { x.L[0].Number = 0 }, api.ErrArg},
		{"0", func(x *pending) { x.L[0].Up[0].Kind = 0 }, api.ErrKind},
		{"1", func(x *pending) { x.L[1].Name = "" }, api.ErrName},
		{"1", func(x *pending) { x.L[1].Number = 3 }, api.ErrOrder},
		{"3", func(x *pending) { x.L[3].Down[0].Columns = []string{"x"} }, api.ErrForm},
		{"3", func(x *pending) { x.L[3].Number = 6 }, api.ErrOrder},
		{"done 0", func(x *pending) { x.Done[0].Number = 2 }, api.ErrNone},
		{"done 0", func(x *pending) { x.Done[0].Number = -1 }, api.ErrNone},
		{"done 0", func(x *pending) { x.Done[0].Sum++ }, api.ErrSum},
		{"done 0", func(x *pending) { x.L[0].Name = "other" }, api.ErrSum},
		{"done 0", func(x *pending) { x.L[0].Down = nil }, api.ErrSum},
		{"done 1", func(x *pending) { x.Done[1].Number = 3 }, api.ErrOrder},
		{"done 1", func(x *pending) { x.Done[1].Number = 0 }, api.ErrOrder},
		{"done 1", func(x *pending) { x.Done[1].Number = 5 }, api.ErrNone},
		{"done 1", func(x *pending) { x.Done[1].Sum = 0 }, api.ErrSum},
		{"done 1", func(x *pending) { x.Done[1].Number = 7 }, api.ErrSum},
	}
}

// P6.15: what is pending, and errors.
func TestPending(t *testing.T) {
	l := links(t)
	for n, want := range [][]int{{3, 4, 7, 20}, {4, 7, 20}, {7, 20}, {20}, nil} {
		if got, err := migrate.Pending(l, applied(t, l[:n]...)); err != api.OK || !slices.Equal(got, want) {
			t.Error(got, err)
		}
	}
	tryFaults(t, pending{l, applied(t, l[:2]...)}, func(x pending) api.Errno {
		got, err := migrate.Pending(x.L, x.Done)
		if err != api.OK && got != nil {
			t.Error(got, err)
		}
		return err
	}, pendingFaults())
	// A migration that was not had, ahead of one that was: behind all other errors.
	for _, done := range [][]api.Applied{applied(t, l[1]), applied(t, l[0], l[2]), applied(t, l[3])} {
		if got, err := migrate.Pending(l, done); got != nil || err != api.ErrOrder {
			t.Error(done, got, err)
		}
		done[len(done)-1].Sum++
		if got, err := migrate.Pending(l, done); got != nil || err != api.ErrSum {
			t.Error(done, got, err)
		}
	}
	var many []api.Migration
	for i := range api.MaxMigrations {
		many = append(many, api.Migration{Number: i + 1, Name: "m"})
	}
	if got, err := migrate.Pending(many, applied(t, many[:199]...)); err != api.OK || !slices.Equal(got, []int{200}) {
		t.Error(got, err)
	}
	if got, err := migrate.Pending(nil, nil); err != api.OK || len(got) > 0 {
		t.Error(got, err)
	}
	if got, err := migrate.Pending(nil, applied(t, l[0])); err != api.ErrNone || got != nil {
		t.Error(got, err)
	}
}

// checkStore checks that a store is behind so many migrations of a chain, which began with the stock of the depot.
func checkStore(t *testing.T, db *store.Store, l []api.Migration, n int) {
	t.Helper()
	s, d, err := through(depot(t), stock(), l[:n])
	must(t, err)
	done, err := migrate.Status(db)
	if err != api.OK || !same(done, applied(t, l[:n]...)) {
		t.Error(done, err)
	}
	got, rows := db.Schema(), db.Data()
	if at := slices.IndexFunc(got.Tables, func(x api.Table) bool { return x.Name == "history_" }); at >= 0 {
		var want [][]api.Value
		for _, m := range l[:n] {
			want = append(want, row(integer(m.Number), text(strconv.FormatUint(sumOf(t, m), 10))))
		}
		if x, err := schema.SchemaText(api.Schema{Tables: got.Tables[at : at+1]}); err != api.OK || x != lines(history()...) || !same(rows.Tables[at].Rows, want) {
			t.Error(x, rows.Tables[at])
		}
		got.Tables, rows.Tables = slices.Delete(got.Tables, at, at+1), slices.Delete(rows.Tables, at, at+1)
	}
	if !same(got, s) || !same(rows, d) {
		t.Error(n, got, rows)
	}
}

// P6.16, P6.17: a store goes forward and back, with a commit for each migration.
func TestDeploy(t *testing.T) {
	db, l := stocked(t), links(t)
	commits := db.Commits()
	deploy := func(n, want int) {
		t.Helper()
		if got, err := migrate.Deploy(db, l[:n]); got != want || err != api.OK {
			t.Error(got, err)
		}
		commits += want
		checkStore(t, db, l, n)
	}
	revert := func(to, n, want int) {
		t.Helper()
		if got, err := migrate.Revert(db, l, to); got != want || err != api.OK {
			t.Error(got, err)
		}
		commits += want
		checkStore(t, db, l, n)
	}
	deploy(0, 0)
	if len(db.Schema().Tables) != 3 {
		t.Error("a table without a migration")
	}
	deploy(1, 1)
	deploy(1, 0)
	deploy(3, 2)
	deploy(4, 1)
	deploy(4, 0)
	revert(20, 4, 0)
	revert(19, 3, 1)
	revert(1<<62, 3, 0)
	revert(3, 1, 2)
	revert(3, 1, 0)
	deploy(4, 3)
	if db.Commits() != commits {
		t.Error(db.Commits(), commits)
	}
	again, err := store.Open(db.Log())
	must(t, err)
	checkStore(t, again, l, 4)
	revert(0, 0, 4)
	revert(0, 0, 0)
	if db.Commits() != commits {
		t.Error(db.Commits(), commits)
	}
}

// P6.17: the way back is that of Down, whatever is lost.
func TestRevertOfLoss(t *testing.T) {
	db := stocked(t)
	l := []api.Migration{{Number: 1, Name: "a", Up: list(t, "tight item name 'none'", "remove item spare"), Down: list(t, "add item spare bool null", "loose item name")}}
	if n, err := migrate.Deploy(db, l); n != 1 || err != api.OK {
		t.Error(n, err)
	}
	if n, err := migrate.Revert(db, l, 0); n != 1 || err != api.OK {
		t.Error(n, err)
	}
	if items := rowsOf(db.Data(), "item"); items[0][5] != text("none") || items[3][7] != null || len(rowsOf(db.Data(), "history_")) > 0 {
		t.Error(db.Data())
	}
}

// P6.16, P6.17: errors ahead of all migrations.
func TestDeployErrors(t *testing.T) {
	try := func(call func(db *store.Store, x pending) (int, api.Errno)) {
		t.Helper()
		tryFaults(t, pending{links(t), nil}, func(x pending) api.Errno {
			db := stocked(t)
			l := links(t)
			n, err := migrate.Deploy(db, l[:2])
			must(t, err)
			before := state(db)
			n, err = call(db, x)
			if err != api.OK && (n != 0 || !sameResults(state(db), before)) {
				t.Error(n, err)
			}
			return err
		}, []fault[pending]{
			{"large", func(x *pending) { x.L = append(x.L, make([]api.Migration, api.MaxMigrations)...) }, api.ErrLarge},
			{"0", func(x *pending) { x.L[0].Number = 0 }, api.ErrArg},
			{"1", func(x *pending) { x.L[1].Name = "" }, api.ErrName},
			{"2", func(x *pending) { x.L[2].Number = 4 }, api.ErrOrder},
			{"3", func(x *pending) { x.L[3].Up = drops(api.MaxChanges + 2) }, api.ErrLarge},
			{"had", func(x *pending) { x.L[0].Number = 2 }, api.ErrNone},
			{"had", func(x *pending) { x.L[0].Name = "other" }, api.ErrSum},
			{"had 1", func(x *pending) { x.L[1].Number = 5 }, api.ErrNone},
		})
		db, l := stocked(t), links(t)
		if n, err := migrate.Deploy(db, l[1:3]); n != 0 || err != api.ErrName {
			t.Error(n, err)
		}
		_, err := migrate.Deploy(db, l[:1])
		must(t, err)
		before := state(db)
		if n, err := call(db, pending{L: append([]api.Migration{{Number: 1, Name: "a"}}, l...)}); n != 0 || err != api.ErrOrder || !sameResults(state(db), before) {
			t.Error(n, err)
		}
	}
	try(func(db *store.Store, x pending) (int, api.Errno) { return migrate.Deploy(db, x.L) })
	try(func(db *store.Store, x pending) (int, api.Errno) { return migrate.Revert(db, x.L, 0) })
	db, err := store.New(readSchema(t, "table history_", "column id int", "key id"))
	must(t, err)
	if n, err := migrate.Revert(db, nil, -1); n != 0 || err != api.ErrArg {
		t.Error(n, err)
	}
	if n, err := migrate.Revert(db, nil, 0); n != 0 || err != api.ErrForm {
		t.Error(n, err)
	}
}

// P6.16, P6.17: a migration that cannot be made is not begun, and those ahead of it stay.
func TestDeployStops(t *testing.T) {
	for _, x := range []struct {
		want api.Errno
		l    []string
	}{
		{api.ErrName, []string{"add item z int null", "drop none"}},
		{api.ErrTwice, []string{"rename box case", "rename shelf case"}},
		{api.ErrNull, []string{"drop item", "tight box seen null"}},
		{api.ErrLost, []string{"default box label null", "cast box label int"}},
		{api.ErrKey, []string{"unindex box z", "unique box z open"}},
		{api.ErrRef, []string{"unforeign item box", "tight item box 9", "foreign item b box box"}},
		{api.ErrTwice, []string{"rename box history_"}},
		// The table of what was had: ahead of all errors of changes.
		{api.ErrName, []string{"drop box", "drop history_"}},
		{api.ErrName, []string{"add item z int null", "add history_ x int null"}},
		{api.ErrName, []string{"tight box seen null", "create history_", "column number int", "column sum text", "key number", "end"}},
	} {
		bad := api.Migration{Number: 5, Name: "bad", Up: list(t, x.l...)}
		l := []api.Migration{{Number: 2, Name: "good"}, {Number: 3, Name: "well", Up: list(t, "add box x int null"), Down: list(t, "remove box x")}, bad, {Number: 6, Name: "more"}}
		for n := range 3 {
			db := stocked(t)
			if got, err := migrate.Deploy(db, l[:n]); got != n || err != api.OK {
				t.Fatal(got, err)
			}
			commits, before := db.Commits(), state(db)
			if got, err := migrate.Deploy(db, l); got != 2-n || err != x.want || db.Commits() != commits+2-n {
				t.Error(x, n, got, err)
			}
			checkStore(t, db, l, 2)
			if n == 2 && !sameResults(state(db), before) {
				t.Error(x)
			}
		}
		// The first one: not even the table is there.
		db := stocked(t)
		before := state(db)
		if got, err := migrate.Deploy(db, l[2:]); got != 0 || err != x.want || !sameResults(state(db), before) {
			t.Error(x, got, err)
		}
		// The way back.
		bad.Down, bad.Up = bad.Up, nil
		l = []api.Migration{{Number: 2, Name: "good"}, bad, {Number: 6, Name: "more"}, {Number: 7, Name: "most"}}
		if got, err := migrate.Deploy(db, l); got != 4 || err != api.OK {
			t.Error(x, got, err)
		}
		commits := db.Commits()
		if got, err := migrate.Revert(db, l, 0); got != 2 || err != x.want || db.Commits() != commits+2 {
			t.Error(x, got, err)
		}
		checkStore(t, db, l, 2)
		if got, err := migrate.Revert(db, l, 5); got != 0 || err != api.OK {
			t.Error(x, got, err)
		}
	}
}

// P6.16: a store that has nothing else, so that the table is the first one.
func TestDeployFromNothing(t *testing.T) {
	db, err := store.New(api.Schema{})
	must(t, err)
	l := []api.Migration{{Number: 1, Name: "a"}, {Number: 2, Name: "b", Up: list(t, "create pet", "column id int", "key id", "end"), Down: list(t, "drop pet")}}
	if n, err := migrate.Deploy(db, l[:1]); n != 1 || err != api.OK || told(t, db.Schema()) != lines(history()...) {
		t.Error(n, err)
	}
	if n, err := migrate.Deploy(db, l); n != 1 || err != api.OK || len(db.Schema().Tables) != 2 {
		t.Error(n, err)
	}
	if n, err := migrate.Revert(db, l, 0); n != 2 || err != api.OK || told(t, db.Schema()) != lines(history()...) {
		t.Error(n, err)
	}
}

// P6.16: a store without room for the table.
func TestDeployWithoutRoom(t *testing.T) {
	var s api.Schema
	for i := range api.MaxTables {
		s.Tables = append(s.Tables, wide(numbered("a", i), 0, nil))
	}
	db, err := store.New(s)
	must(t, err)
	l := []api.Migration{{Number: 1, Name: "m", Up: list(t, "drop a100")}}
	if n, err := migrate.Deploy(db, l); n != 0 || err != api.ErrLarge || len(db.Schema().Tables) != api.MaxTables || db.Commits() != 0 {
		t.Error(n, err)
	}
}

// P6.16: other transactions that have begun see that the structure has changed; those that have ended do not matter.
func TestDeployAmongOthers(t *testing.T) {
	db := stocked(t)
	a, b := db.Begin(), db.Begin()
	must(t, a.Delete("item", row(integer(9))), b.Rollback())
	if n, err := migrate.Deploy(db, links(t)); n != 4 || err != api.OK {
		t.Error(n, err)
	}
	if err := a.Commit(); err != api.ErrConflict {
		t.Error(err)
	}
	checkStore(t, db, links(t), 4)
}

// P6.16, P6.17: what a table refers to the migrations for can be in the way back.
func TestRevertWhatIsReferredTo(t *testing.T) {
	db := stocked(t)
	l := []api.Migration{{Number: 1, Name: "a"}, {Number: 9, Name: "b", Up: list(t, "foreign item h history_ id")}}
	if n, err := migrate.Deploy(db, l); n != 1 || err != api.ErrRef {
		t.Error(n, err)
	}
	a := db.Begin()
	must(t, a.Delete("item", row(integer(8))))
	for _, id := range []int{7, -5} {
		must(t, a.Update("item", row(integer(id)), row(integer(id), null, null, null, null, null, null, null)))
	}
	must(t, a.Delete("item", row(integer(-5))), a.Delete("item", row(integer(7))), a.Delete("item", row(integer(9))))
	must(t, a.Insert("item", row(integer(1), null, null, null, null, null, null, null)), a.Commit())
	if n, err := migrate.Deploy(db, l); n != 1 || err != api.OK {
		t.Error(n, err)
	}
	if n, err := migrate.Revert(db, l, 0); n != 1 || err != api.ErrRef {
		t.Error(n, err)
	}
	if done, err := migrate.Status(db); err != api.OK || !same(done, applied(t, l[0])) {
		t.Error(done, err)
	}
}
