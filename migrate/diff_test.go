package migrate_test

import (
	"slices"
	"strconv"
	"strings"
	"testing"

	"dumbwaiter/api"
	"dumbwaiter/migrate"
)

// hints are right hints for two schemas.
func (r *maker) hints(a, b api.Schema) []api.Hint {
	var l []api.Hint
	if len(a.Tables) == 0 || len(b.Tables) == 0 {
		return nil
	}
	for range r.Intn(6) {
		t := one(r, a.Tables)
		h := api.Hint{Table: t.Name, To: one(r, b.Tables).Name}
		if r.Intn(3) > 0 {
			h.Column, h.To = one(r, t.Columns).Name, one(r, one(r, b.Tables).Columns).Name
		}
		if migrate.CheckHints(a, b, append(slices.Clone(l), h)) == api.OK {
			l = append(l, h)
		}
	}
	return l
}

// checkDiff checks that Diff leads from one schema to another one, and does to data what Moved says. It returns the error of Moved.
func checkDiff(t *testing.T, a, b api.Schema, hints []api.Hint, d api.Data) api.Errno {
	t.Helper()
	l, err := migrate.Diff(a, b, hints)
	must(t, err)
	s, err := migrate.Apply(a, l)
	if err != api.OK || !same(s, b) {
		t.Error(told(t, a), told(t, b), hints, written(t, l), err)
		return api.OK
	}
	want, moved := migrate.Moved(a, b, hints, d)
	s, got, _, ran := migrate.Run(a, d, l)
	if (moved == api.OK) != (ran == api.OK) || !same(got, want) || ran == api.OK && !same(s, b) {
		t.Error(told(t, a), told(t, b), hints, written(t, l), d, want, moved, got, ran)
	}
	return moved
}

// P6.5: for schemas that are near to one another, and for any two.
func TestDiffAtRandom(t *testing.T) {
	errors, rows := map[api.Errno]int{}, 0
	randomly(t, 2000, func(t *testing.T, r *maker) {
		a := r.schema()
		b := r.schema()
		if r.Intn(4) > 0 {
			_, b = r.changes(a, 1+r.Intn(12))
		}
		if r.Intn(2) == 0 {
			a, b = b, a
		}
		hints := r.hints(a, b)
		for range 3 {
			d := r.data(a)
			errors[checkDiff(t, a, b, hints, d)]++
			m, _ := migrate.Moved(a, b, hints, d)
			for _, x := range m.Tables {
				rows += len(x.Rows)
			}
		}
	})
	for _, err := range []api.Errno{api.OK, api.ErrLost, api.ErrNull, api.ErrKey, api.ErrRef} {
		if errors[err] < 50 {
			t.Error(err, errors)
		}
	}
	if rows < 1000 {
		t.Error(rows)
	}
}

// P6.5: of a schema and itself nothing changes.
func TestDiffOfItself(t *testing.T) {
	randomly(t, 300, func(t *testing.T, r *maker) {
		s := r.schema()
		if l, err := migrate.Diff(s, s, nil); len(l) > 0 || err != api.OK {
			t.Error(told(t, s), l, err)
		}
	})
	if l, err := migrate.Diff(depot(t), depot(t), nil); len(l) > 0 || err != api.OK {
		t.Error(l, err)
	}
}

// tables reads tables from the words behind their names: columns like id:int, the first one of which is the key, and foreign keys like >b:column.
func tables(t testing.TB, l ...string) api.Schema {
	t.Helper()
	var text []string
	for _, line := range l {
		words := strings.Fields(line)
		text = append(text, "table "+words[0])
		var behind []string
		for i, w := range words[1:] {
			if target, column, ok := strings.Cut(w, ":"); ok && target[0] == '>' {
				behind = append(behind, "foreign f"+strconv.Itoa(i)+" "+target[1:]+" "+column)
			} else {
				text = append(text, "column "+target+" "+strings.ReplaceAll(column, "?", " null"))
			}
		}
		key, _, _ := strings.Cut(words[1], ":")
		text = append(append(text, "key "+key), behind...)
	}
	return readSchema(t, text...)
}

// P6.5: lists that Diff makes, for what has to be done in some order.
func TestDiffOrder(t *testing.T) {
	// As the example of the chapter has it.
	a, b := tables(t, "pet id:int name:text?"), readSchema(t, "table pet", "column id int", "column title text default ''", "column age int null", "key id")
	l, err := migrate.Diff(a, b, []api.Hint{{Table: "pet", Column: "name", To: "title"}})
	if got := written(t, l); err != api.OK || got != lines("move pet name title", "tight pet title ''", "add pet age int null") {
		t.Error(got, err)
	}
	for _, x := range []struct {
		a, b  []string
		hints []api.Hint
	}{
		// Names in circles, and in a row.
		{[]string{"a id:int", "b id:int", "c id:int"}, []string{"a id:int", "b id:int", "c id:int"}, []api.Hint{{Table: "a", To: "b"}, {Table: "b", To: "c"}, {Table: "c", To: "a"}}},
		{[]string{"a id:int", "b id:int", "spare0 id:int"}, []string{"a id:int", "b id:int", "spare1 id:int"}, []api.Hint{{Table: "a", To: "b"}, {Table: "b", To: "a"}, {Table: "spare0", To: "spare1"}}},
		{[]string{"a id:int", "b id:int", "c id:int"}, []string{"a id:int", "b id:int", "spare0 id:int"}, []api.Hint{{Table: "a", To: "b"}, {Table: "b", To: "a"}, {Table: "c", To: "spare0"}}},
		{[]string{"a id:int", "b id:int", "c id:int", "d id:int"}, []string{"a id:int", "b id:int", "c id:int", "d id:int"}, []api.Hint{{Table: "a", To: "b"}, {Table: "b", To: "a"}, {Table: "c", To: "d"}, {Table: "d", To: "c"}}},
		{[]string{"a id:int", "b id:int"}, []string{"b id:int", "c id:int"}, []api.Hint{{Table: "a", To: "b"}, {Table: "b", To: "c"}}},
		{[]string{"a id:int", "b id:int"}, []string{"a id:int", "b id:int"}, []api.Hint{{Table: "a", To: "b"}}},
		{[]string{"a id:int x:int y:int z:int"}, []string{"a id:int x:int y:int z:int"}, []api.Hint{{Table: "a", Column: "id", To: "x"}, {Table: "a", Column: "x", To: "id"}}},
		{[]string{"a id:int x:int spare0:int"}, []string{"a id:int x:int spare0:int"}, []api.Hint{{Table: "a", Column: "x", To: "spare0"}, {Table: "a", Column: "spare0", To: "x"}}},
		{[]string{"a id:int x:int"}, []string{"a id:int x:bool y:int"}, []api.Hint{{Table: "a", Column: "x", To: "y"}}},
		// Tables that refer to one another, dropped, created, and dropped to be created again.
		{[]string{"a id:int >b:id", "b id:int >a:id >b:id", "c id:int >a:id"}, []string{"c id:int"}, nil},
		{[]string{"c id:int"}, []string{"a id:int >b:id >c:id", "b id:int >a:id >b:id", "c id:int >a:id"}, nil},
		{[]string{"a id:int >b:id", "b id:int >c:id", "c id:int"}, nil, nil},
		{nil, []string{"a id:int >b:id", "b id:int >c:id", "c id:int >c:id"}, nil},
		{[]string{"a id:int >b:id", "b id:int >a:id"}, []string{"a id:moment >b:id", "b id:moment >a:id"}, []api.Hint{{Table: "a", To: "b"}, {Table: "b", To: "a"}}},
		{[]string{"a id:bool >b:id", "b id:bool >a:id", "c id:int x:bool >b:x"}, []string{"a id:moment >b:id", "b id:moment >a:id", "c id:int x:moment >b:x"}, nil},
		// Keys of another kind, to which others refer, and other columns of foreign keys.
		{[]string{"a id:int up:int? >a:up", "b id:int a:int >a:a"}, []string{"a id:text up:text? >a:up", "b id:int a:text >a:a"}, nil},
		{[]string{"a id:int", "b id:int x:int y:int >a:x"}, []string{"a id:int", "b id:int x:int y:int >a:y"}, nil},
		{[]string{"a id:int", "b id:int x:int >a:x"}, []string{"a id:int", "b id:int >a:id"}, nil},
		{[]string{"a id:int", "b id:int x:int >a:x"}, []string{"b id:int x:int", "c id:int >b:id"}, []api.Hint{{Table: "a", To: "c"}}},
	} {
		a, b := tables(t, x.a...), tables(t, x.b...)
		randomly(t, 10, func(t *testing.T, r *maker) { checkDiff(t, a, b, x.hints, r.data(a)) })
	}
}

// P6.5: lists of the least length for what is simple.
func TestDiffIsShort(t *testing.T) {
	for _, x := range []struct {
		a, b  []string
		hints []api.Hint
		want  int
	}{
		{[]string{"a id:int x:int", "b id:int a:int >a:a"}, []string{"a id:int y:int", "c id:int b:int >a:b"}, []api.Hint{{Table: "b", To: "c"}, {Table: "a", Column: "x", To: "y"}, {Table: "b", Column: "a", To: "b"}}, 3},
		{[]string{"a id:int >a:id", "b id:int >a:id"}, nil, nil, 2},
		{nil, []string{"a id:int >a:id", "b id:int >a:id"}, nil, 2},
		{[]string{"a id:int x:int? y:int"}, []string{"a id:int y:int? x:int"}, nil, 3},
		{[]string{"a id:int x:int y:bool"}, []string{"a id:int x:text y:moment"}, nil, 4},
	} {
		l, err := migrate.Diff(tables(t, x.a...), tables(t, x.b...), x.hints)
		if err != api.OK || len(l) != x.want {
			t.Error(x, written(t, l), err)
		}
	}
}

// numbered is a name with a number.
func numbered(name string, n int) string { return name + strconv.Itoa(100+n) }

// wide is a table with so many columns beside the key that are called by numbers.
func wide(name string, columns int, column func(i int) api.Column) api.Table {
	t := api.Table{Name: name, Columns: []api.Column{{Name: "id", Kind: api.Int}}, Key: []string{"id"}}
	for i := range columns {
		t.Columns = append(t.Columns, column(i))
	}
	return t
}

// P6.5: schemas as large as they can be are never too large on the way.
func TestDiffOfLargeSchemas(t *testing.T) {
	column := func(name string) func(i int) api.Column {
		return func(i int) api.Column { return api.Column{Name: numbered(name, i), Kind: api.Int, Null: true} }
	}
	a, b := api.Schema{}, api.Schema{}
	for i := range api.MaxTables {
		x, y := wide(numbered("a", i), 0, nil), wide(numbered("b", i), 0, nil)
		if i == 0 {
			x, y = wide(x.Name, api.MaxColumns-1, column("x")), wide(x.Name, api.MaxColumns-1, column("y"))
			for k := range api.MaxIndexes {
				x.Foreigns = append(x.Foreigns, api.Foreign{Name: numbered("f", k), Columns: []string{numbered("x", k)}, Table: numbered("a", k)})
				y.Foreigns = append(y.Foreigns, api.Foreign{Name: numbered("g", k), Columns: []string{numbered("y", k)}, Table: numbered("b", k+1)})
				x.Indexes = append(x.Indexes, api.Index{Name: numbered("i", k), Columns: []string{numbered("x", k)}})
				y.Indexes = append(y.Indexes, api.Index{Name: numbered("k", k), Columns: []string{numbered("y", k)}})
			}
		}
		a.Tables, b.Tables = append(a.Tables, x), append(b.Tables, y)
	}
	d := api.Data{}
	for i, x := range a.Tables {
		row := row(integer(i))
		row = append(row, make([]api.Value, len(x.Columns)-1)...)
		d.Tables = append(d.Tables, api.TableRows{Table: x.Name, Rows: [][]api.Value{row}})
	}
	if err := checkDiff(t, a, b, nil, d); err != api.OK {
		t.Error(err)
	}
	if err := checkDiff(t, b, a, nil, api.Data{Tables: func() []api.TableRows {
		m, err := migrate.Moved(a, b, nil, d)
		must(t, err)
		return m.Tables
	}()}); err != api.OK {
		t.Error(err)
	}
}

// hundred are two schemas with 100 columns together, in which everything about each column is another one.
func hundred() (a, b api.Schema, hints []api.Hint) {
	old := func(i int) api.Column {
		return api.Column{Name: numbered("x", i), Kind: api.Int, Null: i > 0, Default: integer(5)}
	}
	fresh := func(i int) api.Column {
		return api.Column{Name: numbered("x", i^1), Kind: api.Moment, Default: moment(7)}
	}
	for i := range 4 {
		x, y := wide(numbered("a", i), 11, old), wide(numbered("a", i^1), 11, fresh)
		x.Columns, y.Columns = x.Columns[1:], y.Columns[1:]
		x.Key, y.Key = []string{x.Columns[0].Name}, []string{y.Columns[0].Name}
		x.Columns[5].Default = integer(-1)
		hints = append(hints, api.Hint{Table: x.Name, To: y.Name})
		for k := range 8 {
			hints = append(hints, api.Hint{Table: x.Name, Column: x.Columns[k].Name, To: y.Columns[k].Name})
		}
		a.Tables, b.Tables = append(a.Tables, x), append(b.Tables, y)
	}
	slices.SortFunc(b.Tables, func(x, y api.Table) int { return strings.Compare(x.Name, y.Name) })
	return a, b, hints
}

// P6.5: two schemas with 100 columns together need no more than MaxChanges changes; a list that would be longer is refused.
func TestDiffOfManyChanges(t *testing.T) {
	a, b, hints := hundred()
	checkDiff(t, a, b, hints, api.Data{Tables: []api.TableRows{{Table: "a100"}, {Table: "a101"}, {Table: "a102"}, {Table: "a103"}}})
	many := func(kind, columns int) api.Schema {
		var s api.Schema
		for i := range 10 {
			s.Tables = append(s.Tables, wide(numbered("a", i), columns, func(k int) api.Column { return api.Column{Name: numbered("x", k), Kind: kind} }))
		}
		s.Tables[0].Columns[1].Kind = api.Int
		return s
	}
	if _, err := migrate.Diff(many(api.Int, 59), many(api.Text, 59), nil); err != api.OK {
		t.Error(err)
	}
	x, y := many(api.Int, 59), many(api.Moment, 59)
	// 589 casts, and a Default each for so many of them.
	for i := range y.Tables {
		for k := range 2 {
			y.Tables[i].Columns[k+2].Default = moment(1)
		}
	}
	y.Tables[9].Columns[3].Default, y.Tables[8].Columns[3].Default, y.Tables[7].Columns[3].Default = null, null, null
	y.Tables[9].Columns[2].Default, y.Tables[8].Columns[2].Default, y.Tables[7].Columns[2].Default = null, null, null
	y.Tables[6].Columns[3].Default, y.Tables[5].Columns[3].Default, y.Tables[4].Columns[3].Default = null, null, null
	if l, err := migrate.Diff(x, y, nil); err != api.OK || len(l) != api.MaxChanges {
		t.Error(len(l), err)
	}
	y.Tables[4].Columns[3].Default = moment(1)
	if l, err := migrate.Diff(x, y, nil); err != api.ErrLarge || l != nil {
		t.Error(len(l), err)
	}
}
