package sql_test

import (
	"math/rand"
	"testing"

	"dumbwaiter/api"
	"dumbwaiter/sql"
	"dumbwaiter/store"
)

// P4.13: how many rows are read, and what comes of it.
func TestRun(t *testing.T) {
	cat := lit(text("cat"))
	none := scalar(with(people(agg(api.AggRows)), func(*api.Select) {}))
	for i, x := range []struct {
		st   api.Statement
		rows [][]api.Value
		read int
	}{
		{query(zoo(col("q", "id"))), rows(row(integer(1)), row(integer(2)), row(integer(3)), row(integer(4))), 4},
		{query(where(equal("id", num(2)))), rows(row(integer(1))), 1}, {query(where(equal("id", num(9)))), nil, 0}, {query(where(equal("id", lit(null)))), nil, 0}, {query(where(equal("id", op(api.OpDiv, num(1), num(0))))), nil, 0},
		{query(where(equal("kind", cat))), rows(row(integer(1)), row(integer(1))), 2}, {query(where(and(equal("kind", cat), equal("n", num(5))))), rows(row(integer(1))), 1}, {query(where(and(equal("kind", cat), equal("n", num(6))))), nil, 0},
		// Nulls of an index are read, though no row stays.
		{query(where(equal("owner", lit(null)))), nil, 1}, {query(where(and(equal("kind", lit(text("dog"))), equal("n", lit(null))))), nil, 1},
		// Of two conjuncts for one column the first one says what is read.
		{query(where(and(equal("kind", cat), equal("kind", lit(text("dog")))))), nil, 2}, {query(where(and(equal("kind", lit(text("dog"))), equal("kind", cat)))), nil, 1}, {query(where(and(equal("id", num(1)), equal("id", lit(null))))), nil, 1}, {query(where(and(equal("id", lit(null)), equal("id", num(1))))), nil, 0},
		// Each place where a table is named: also one that is never asked.
		{query(people0(none)), rows(row(integer(3))), 3}, {query(people0(op(api.OpAdd, none, none))), rows(row(integer(6))), 6}, {query(with(zoo(none), func(q *api.Select) { q.Where = exprs(equal("id", num(1))) })), rows(row(integer(3))), 4}, {query(with(people0(num(1)), func(q *api.Select) { q.Where = exprs(op(api.OpAnd, lit(boolean(0)), exists(zoo(num(1))))) })), nil, 4}, {query(with(people0(num(1)), func(q *api.Select) { q.From = from(sub(where(equal("id", num(1))), "s")) })), rows(row(integer(1))), 4}, {query(with(people0(num(1)), func(q *api.Select) {
			q.From = from(sub(people0(none), "s"))
			q.Joins = []api.Join{join(table("pet", "q"), exists(ids("pet", "r")))}
			q.Where = exprs(equal("id", num(1)))
		})), rows(row(integer(1))), 8},
		{query(with(zoo(num(1)), func(q *api.Select) { q.Joins = []api.Join{leftJoin(table("pet", "r"), lit(null))} })), rows(row(integer(1)), row(integer(1)), row(integer(1)), row(integer(1))), 8},
	} {
		got, err := sql.Run(stocked(t).Begin(), x.st, nil)
		want := api.Result{Rows: x.rows, Read: x.read}
		want.Headings, _ = sql.Headings(shop(t), x.st)
		if err != api.OK || !same(got, want) {
			t.Error(i, err, got)
		}
	}
	for i, x := range []struct {
		st          api.Statement
		count, read int
		want        api.Errno
	}{
		{insert("none", []string{"id"}, exprs(num(1)), exprs(num(2))), 2, 0, api.OK}, {insert("none", []string{"id"}, exprs(none)), 1, 3, api.OK}, {into("none", []string{"id"}, where(equal("id", num(2)))), 1, 1, api.OK}, {into("none", []string{"id"}, zoo(col("q", "id"))), 4, 4, api.OK},
		{update("pet", []string{"n"}, exprs(num(1)), is(2)), 1, 1, api.OK}, {update("pet", []string{"n"}, exprs(none), is(2)), 1, 4, api.OK}, {update("pet", []string{"n"}, exprs(num(1))), 4, 4, api.OK}, {update("pet", []string{"n"}, exprs(num(1)), op(api.OpLess, col("x", "id"), num(3))), 2, 4, api.OK}, {update("pet", []string{"n"}, exprs(num(1)), and(is(1), is(2))), 0, 1, api.OK},
		{remove("pet", op(api.OpEqual, col("x", "owner"), num(1))), 2, 2, api.OK}, {remove("pet"), 4, 4, api.OK}, {remove("pet", exists(zoo(num(1)))), 4, 8, api.OK}, {remove("none"), 0, 0, api.OK},
		{insert("pet", []string{"n"}, exprs(num(1))), 0, 0, api.ErrNull}, {insert("pet", []string{"id"}, exprs(num(1))), 0, 0, api.ErrKey}, {remove("person"), 0, 0, api.ErrRef}, {update("pet", []string{"owner"}, exprs(num(9)), is(1)), 0, 0, api.ErrRef},
	} {
		a := stocked(t).Begin()
		got, err := sql.Run(a, x.st, nil)
		if err != x.want || !same(got, api.Result{Count: x.count, Read: x.read}) {
			t.Error(i, err, got)
		}
		want, _, _ := sql.Effect(shop(t), stock(), x.st, nil)
		if err != api.OK {
			want = stock()
		}
		if d, _ := a.Data(); !same(d, want) {
			t.Error(i, d)
		}
	}
}

// P4.13: the errors of Run and RunText, in their order.
func TestErrorsOfRun(t *testing.T) {
	ended := stocked(t).Begin()
	ended.Rollback()
	text := "update `pet` as `x` set `id` = ?1 where (`x`.`id` < 3)"
	for i, x := range []struct {
		t       *store.Txn
		text    string
		dialect int
		kinds   []int
		params  []api.Value
		want    api.Errno
	}{
		{nil, text, api.DialectTick, []int{api.Int}, row(integer(1)), api.ErrKey}, {nil, text, api.DialectTick, []int{api.Int}, row(null), api.ErrNull}, {nil, text, api.DialectTick, []int{api.Int}, row(text1()), api.ErrType}, {nil, text, api.DialectTick, []int{api.Int}, nil, api.ErrForm}, {nil, text, api.DialectTick, []int{api.Text}, nil, api.ErrType}, {nil, text, api.DialectTick, nil, nil, api.ErrArg}, {nil, text, api.DialectPlain, nil, nil, api.ErrSyntax}, {nil, text, 5, nil, nil, api.ErrArg}, {nil, long(api.MaxWritten + 1), api.DialectTick, nil, nil, api.ErrLarge}, {ended, text, 5, nil, nil, api.ErrState},
	} {
		a := x.t
		if a == nil {
			a = stocked(t).Begin()
		}
		if r, err := sql.RunText(a, x.text, x.dialect, x.kinds, x.params); err != x.want || !same(r, api.Result{}) {
			t.Error(i, err, r)
		}
	}
	if r, err := sql.RunText(stocked(t).Begin(), text, api.DialectTick, []int{api.Int}, row(integer(1))); err != api.ErrKey || !same(r, api.Result{}) {
		t.Error(r, err)
	}
	if r, err := sql.RunText(stocked(t).Begin(), "delete [x] from [pet] as [x] where ([x].[id] = @1)", api.DialectBracket, []int{api.Int}, row(integer(1))); err != api.OK || !same(r, api.Result{Count: 1, Read: 1}) {
		t.Error(r, err)
	}
	for i, x := range []struct {
		st     api.Statement
		params []api.Value
		want   api.Errno
	}{
		{api.Statement{}, nil, api.ErrKind}, {query(people(col("p", "x")), api.Int), nil, api.ErrName}, {query(people(par(0)), api.Int), nil, api.ErrForm}, {query(people(par(0)), api.Int), row(integer(1), integer(2)), api.ErrForm}, {query(people(par(0)), api.Int), row(moment(1)), api.ErrType}, {query(people(par(0)), api.Int), row(integer(-api.MaxInt - 1)), api.ErrArg}, {query(people(par(0)), api.Int), row(null), api.OK},
	} {
		if _, err := sql.Run(stocked(t).Begin(), x.st, x.params); err != x.want {
			t.Error(i, err)
		}
		if _, err := sql.Run(ended, x.st, x.params); err != api.ErrState {
			t.Error(i, err)
		}
	}
}

func text1() api.Value { return text("1") }

// P4.13: Run sees the changes of its transaction, also those of structure.
func TestRunSeesItsTransaction(t *testing.T) {
	a := stocked(t).Begin()
	must(t, a.Alter(api.Change{Kind: api.ChRename, Table: "none", Name: "some"}), a.Insert("some", row(integer(4), null)))
	if r, err := sql.Run(a, query(ids("some", "s")), nil); err != api.OK || !same(r.Rows, rows(row(integer(4)))) {
		t.Error(r, err)
	}
	if _, err := sql.Run(a, query(ids("none", "s")), nil); err != api.ErrName {
		t.Error(err)
	}
	if r, err := sql.Run(a, update("some", []string{"id"}, exprs(op(api.OpAdd, col("x", "id"), num(1))), is(4)), nil); err != api.OK || r.Count != 1 {
		t.Error(r, err)
	}
	if r, err := a.Scan("some"); err != api.OK || !same(r, rows(row(integer(5), null))) {
		t.Error(r, err)
	}
}

// step is what another transaction commits in between.
func steps() []api.RowChange {
	edit := func(table string, key []api.Value, r ...api.Value) api.RowChange {
		return api.RowChange{Kind: api.RowUpdate, Table: table, Key: key, Row: r}
	}
	add := func(table string, r ...api.Value) api.RowChange {
		return api.RowChange{Kind: api.RowInsert, Table: table, Row: r}
	}
	return []api.RowChange{
		edit("pet", row(integer(1)), integer(1), integer(1), text("cat"), integer(6)), edit("pet", row(integer(2)), integer(2), integer(2), text("dog"), null), edit("pet", row(integer(3)), integer(3), integer(2), text("owl"), integer(7)), edit("pet", row(integer(4)), integer(5), null, text("owl"), integer(5)),
		{Kind: api.RowDelete, Table: "pet", Key: row(integer(3))}, add("pet", integer(9), null, text("cat"), integer(5)), add("pet", integer(8), integer(3), text("dog"), null), edit("person", row(integer(2)), integer(2), text("bob"), integer(1), null, boolean(0)), edit("person", row(integer(3)), integer(3), text("eva"), integer(30), moment(90000), null), add("person", integer(4), text("dan"), null, null, null), add("none", integer(1), null), add("link", integer(2), integer(2), null), edit("link", row(integer(1), integer(2)), integer(1), integer(2), text("y")),
	}
}

// meets reports whether a transaction that does something is in conflict with a change that is committed in between.
func meets(t *testing.T, do func(a *store.Txn), c api.RowChange) bool {
	t.Helper()
	s := stocked(t)
	a, b := s.Begin(), s.Begin()
	do(a)
	must(t, b.Batch([]api.RowChange{c}), b.Commit())
	err := a.Commit()
	if err != api.OK && err != api.ErrConflict {
		t.Error(err)
	}
	return err == api.ErrConflict
}

// P4.13: what Run notes are the calls of the transaction by which the rows are read, and its Batch.
func TestNotes(t *testing.T) {
	cat := text("cat")
	get := func(table string, key ...api.Value) func(a *store.Txn) {
		return func(a *store.Txn) { a.Get(table, key) }
	}
	find := func(index string, values ...api.Value) func(a *store.Txn) {
		return func(a *store.Txn) { a.Find("pet", index, values) }
	}
	scan := func(tables ...string) func(a *store.Txn) {
		return func(a *store.Txn) {
			for _, name := range tables {
				a.Scan(name)
			}
		}
	}
	none := func(*store.Txn) {}
	both := func(l ...func(a *store.Txn)) func(a *store.Txn) {
		return func(a *store.Txn) {
			for _, f := range l {
				f(a)
			}
		}
	}
	batch := func(l ...api.RowChange) func(a *store.Txn) { return func(a *store.Txn) { a.Batch(l) } }
	for i, x := range []struct {
		st api.Statement
		as func(a *store.Txn)
	}{
		{query(zoo(num(1))), scan("pet")}, {query(people0(num(1))), none}, {query(where(equal("id", num(3)))), get("pet", integer(3))}, {query(where(equal("id", num(9)))), get("pet", integer(9))}, {query(where(equal("id", lit(null)))), none}, {query(where(equal("kind", lit(cat)))), find("bykind", cat)}, {query(where(and(equal("kind", lit(cat)), equal("n", num(5))))), find("bykind", cat, integer(5))}, {query(where(and(equal("kind", lit(text("dog"))), equal("n", lit(null))))), find("bykind", text("dog"), null)}, {query(where(equal("owner", num(2)))), find("byowner", integer(2))}, {query(where(equal("owner", lit(null)))), find("byowner", null)},
		{query(with(people(num(1)), func(q *api.Select) {
			q.Joins = []api.Join{join(table("pet", "q"), lit(boolean(1)))}
			q.Where = exprs(equal("id", num(1)))
		})), both(scan("person"), get("pet", integer(1)))},
		{query(with(people0(num(1)), func(q *api.Select) {
			q.Where = exprs(and(lit(boolean(0)), exists(where(equal("id", num(1)))), exists(ids("none", "n"))))
		})), scan("pet", "none")},
		{insert("none", []string{"id"}, exprs(num(1))), batch(api.RowChange{Kind: api.RowInsert, Table: "none", Row: row(integer(1), null)})},
		{insert("pet", []string{"id", "owner"}, exprs(num(8), num(3))), batch(api.RowChange{Kind: api.RowInsert, Table: "pet", Row: row(integer(8), integer(3), cat, null)})},
		{insert("pet", []string{"id"}, exprs(num(1))), batch(api.RowChange{Kind: api.RowInsert, Table: "pet", Row: row(integer(1), null, cat, null)})},
		{update("pet", []string{"n"}, exprs(num(1)), is(3)), both(get("pet", integer(3)), batch(api.RowChange{Kind: api.RowUpdate, Table: "pet", Key: row(integer(3)), Row: row(integer(3), integer(2), cat, integer(1))}))},
		{remove("pet", op(api.OpEqual, col("x", "owner"), num(2))), both(find("byowner", integer(2)), batch(api.RowChange{Kind: api.RowDelete, Table: "pet", Key: row(integer(3))}))},
		{remove("person", is(3)), both(get("person", integer(3)), batch(api.RowChange{Kind: api.RowDelete, Table: "person", Key: row(integer(3))}))},
		{remove("pet", op(api.OpNull, col("x", "n"))), both(scan("pet"), batch(api.RowChange{Kind: api.RowDelete, Table: "pet", Key: row(integer(2))}))},
		{update("none", []string{"x"}, exprs(exists(ids("pet", "q")))), scan("none", "pet")},
	} {
		for k, c := range steps() {
			got := meets(t, func(a *store.Txn) { sql.Run(a, x.st, nil) }, c)
			if want := meets(t, x.as, c); got != want {
				t.Error(i, k, got, want)
			}
		}
	}
	// With an error of Check or of params nothing is noted.
	for _, c := range steps() {
		if meets(t, func(a *store.Txn) {
			sql.Run(a, query(zoo(num(1)), api.Int), nil)
			sql.Run(a, query(zoo(col("q", "x"))), nil)
		}, c) {
			t.Error(c)
		}
	}
}

// P4.13: for statements at random Run gives what Answer and Effect give, and is in conflict only with changes of tables that it names.
func TestRunsAtRandom(t *testing.T) {
	s := shop(t)
	for seed := range 4000 {
		st, d, params := made(s, seed)
		a := filled(t, d).Begin()
		got, err := sql.Run(a, st, params)
		after, _ := a.Data()
		if st.Kind == api.StSelect {
			want, _ := sql.Answer(s, d, st, params)
			if err != api.OK || !same(got.Rows, want) || !same(after, d) || got.Read != naiveRead(t, d, st, params) {
				t.Fatal(seed, err, got, want, show(t, st))
			}
			continue
		}
		want, count, wrong := sql.Effect(s, d, st, params)
		if wrong != api.OK {
			want = d
		}
		if err != wrong || got.Count != count || !same(after, want) || err == api.OK && got.Read != naiveRead(t, d, st, params) {
			t.Fatal(seed, err, wrong, got, show(t, st))
		}
	}
}

// naiveRead is how many rows a statement reads, by what Plan says of it.
func naiveRead(t *testing.T, d api.Data, st api.Statement, params []api.Value) int {
	t.Helper()
	s := shop(t)
	n := naive{s, d, params}
	read := 0
	sql.Sources(st, func(x api.Source) {
		if x.Table != "" {
			_, r := n.table(x.Table)
			read += len(r)
		}
	})
	plan, err := sql.Plan(s, st)
	must(t, err)
	conditions, tables := st.Where, map[string]string{st.Name: st.Table}
	for _, q := range st.Select {
		conditions = q.Where
		for _, x := range append(clone(q.From), sourcesOfJoins(q.Joins)...) {
			if x.Table != "" {
				tables[x.Name] = x.Table
				_, r := n.table(x.Table)
				read -= len(r)
			}
		}
	}
	for _, a := range plan {
		table, r := n.table(tables[a.Source])
		columns := table.Key
		for _, x := range table.Indexes {
			if x.Name == a.Index {
				columns = x.Columns[:a.Count]
			}
		}
		if a.Way == api.ByScan {
			columns = nil
		}
		for _, values := range r {
			if n.fits(table, columns, values, a, conditions) {
				read++
			}
		}
	}
	return read
}

// fits reports whether a row has the values to which columns are bound.
func (n naive) fits(t api.Table, columns []string, r []api.Value, a api.Access, conditions []api.Expr) bool {
	var firstOf func(e api.Expr, name string) *api.Expr
	firstOf = func(e api.Expr, name string) *api.Expr {
		if e.Kind == api.XOp && e.Op == api.OpAnd {
			if x := firstOf(e.Args[0], name); x != nil {
				return x
			}
			return firstOf(e.Args[1], name)
		}
		if e.Kind == api.XOp && e.Op == api.OpEqual {
			for i, x := range e.Args {
				if same(x, col(a.Source, name)) && steady(e.Args[1-i]) {
					return &e.Args[1-i]
				}
			}
		}
		return nil
	}
	for _, name := range columns {
		bound := firstOf(conditions[0], name)
		v := n.eval(*bound, nil)
		if r[place(t, name)] != v || a.Way == api.ByKey && v == null {
			return false
		}
	}
	return true
}

// place is that of a column.
func place(t api.Table, name string) int {
	for i, c := range t.Columns {
		if c.Name == name {
			return i
		}
	}
	return -1
}

// steady reports whether an expression is a constant.
func steady(e api.Expr) bool {
	for _, arg := range e.Args {
		if !steady(arg) {
			return false
		}
	}
	return e.Kind != api.XColumn && e.Kind <= api.XIn && len(e.Sub) == 0
}

// P4.13, P3.12: transactions with statements at random are serial.
func TestSerialRuns(t *testing.T) {
	s := shop(t)
	conflicts, commits := 0, 0
	for seed := range 600 {
		r := rand.New(rand.NewSource(int64(seed)))
		x := stocked(t)
		a, b := x.Begin(), x.Begin()
		one, _, p := made(s, r.Intn(5000))
		two, _, q := made(s, r.Intn(5000))
		first, err := sql.Run(a, one, p)
		second, other := sql.Run(b, two, q)
		must(t, b.Commit())
		if a.Commit() != api.OK {
			conflicts++
			continue
		}
		commits++
		y := stocked(t)
		c := y.Begin()
		again, wrong := sql.Run(c, two, q)
		if wrong != other || !same(again, second) {
			t.Fatal(seed)
		}
		must(t, c.Commit())
		c = y.Begin()
		again, wrong = sql.Run(c, one, p)
		must(t, c.Commit())
		if wrong != err || again.Count != first.Count || !same(again.Rows, first.Rows) || !same(x.Data(), y.Data()) {
			t.Fatal(seed, show(t, one), show(t, two))
		}
	}
	if conflicts < 20 || commits < 200 {
		t.Error(conflicts, commits)
	}
}
