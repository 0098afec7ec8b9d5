package store_test

import (
	"maps"
	"math/rand"
	"slices"
	"strconv"
	"strings"

	"dumbwaiter/api"
	"dumbwaiter/store"
	"dumbwaiter/value"
)

// naive is a store as P3.7 to P3.12 say it, with plain lists of rows, and marks that are texts.
type naive struct {
	schema  api.Schema
	data    api.Data
	commits []naiveCommit
}

// naiveCommit is what others ask of a commit.
type naiveCommit struct {
	altered bool
	marks   map[string]bool
}

// naiveTxn is a transaction of it.
type naiveTxn struct {
	store       *naive
	schema      api.Schema
	start, data api.Data
	begun       int
	altered     bool
	noted       map[string]bool
}

func (s *naive) begin() *naiveTxn {
	return &naiveTxn{s, clone(s.schema), clone(s.data), clone(s.data), len(s.commits), false, map[string]bool{}}
}

// markOf is a mark of some words and values.
func markOf(l []api.Value, words ...string) string {
	for _, v := range l {
		words = append(words, value.Show(v))
	}
	return strings.Join(words, "|")
}

// pickAt returns the values of some columns.
func pickAt(t api.Table, r []api.Value, names []string) []api.Value {
	var l []api.Value
	for _, name := range names {
		l = append(l, at(t, r, name))
	}
	return l
}

func (x *naiveTxn) note(mark string) { x.noted[mark] = true }

// table returns the place of a table, -1 if there is none.
func (x *naiveTxn) table(name string) int {
	return slices.IndexFunc(x.schema.Tables, func(t api.Table) bool { return t.Name == name })
}

// checkKey says the errors of key values.
func checkKey(t api.Table, key []api.Value) api.Errno {
	if len(key) != len(t.Key) {
		return api.ErrForm
	}
	for i, name := range t.Key {
		for _, c := range t.Columns {
			if err := value.Check(c.Kind, key[i]); c.Name == name && err != api.OK {
				return err
			}
		}
		if key[i] == null {
			return api.ErrNull
		}
	}
	return api.OK
}

func (x *naiveTxn) get(table string, key []api.Value) ([]api.Value, api.Errno) {
	n := x.table(table)
	if n < 0 {
		return nil, api.ErrName
	}
	t := x.schema.Tables[n]
	if err := checkKey(t, key); err != api.OK {
		return nil, err
	}
	x.note(markOf(key, "key", table))
	for _, r := range x.data.Tables[n].Rows {
		if slices.Equal(pickAt(t, r, t.Key), key) {
			return r, api.OK
		}
	}
	return nil, api.ErrNone
}

func (x *naiveTxn) scan(table string) ([][]api.Value, api.Errno) {
	n := x.table(table)
	if n < 0 {
		return nil, api.ErrName
	}
	x.note(markOf(nil, "table", table))
	return x.data.Tables[n].Rows, api.OK
}

func (x *naiveTxn) find(table, index string, values []api.Value) ([][]api.Value, api.Errno) {
	n := x.table(table)
	if n < 0 {
		return nil, api.ErrName
	}
	t := x.schema.Tables[n]
	for _, y := range t.Indexes {
		if y.Name != index {
			continue
		}
		if len(values) == 0 || len(values) > len(y.Columns) {
			return nil, api.ErrForm
		}
		for i, v := range values {
			for _, c := range t.Columns {
				if err := value.Check(c.Kind, v); c.Name == y.Columns[i] && err != api.OK {
					return nil, err
				}
			}
		}
		x.note(markOf(values, "index", table, index))
		var l [][]api.Value
		for _, r := range x.data.Tables[n].Rows {
			if slices.Equal(pickAt(t, r, y.Columns[:len(values)]), values) {
				l = append(l, r)
			}
		}
		return l, api.OK
	}
	return nil, api.ErrName
}

func (x *naiveTxn) all() api.Data {
	for _, t := range x.schema.Tables {
		x.note(markOf(nil, "table", t.Name))
	}
	return x.data
}

// checkChange is item 1 of P3.9.
func (x *naiveTxn) checkChange(c api.RowChange) api.Errno {
	n := x.table(c.Table)
	switch {
	case c.Kind < 1 || c.Kind > 3:
		return api.ErrKind
	case n < 0:
		return api.ErrName
	case c.Kind == api.RowInsert && len(c.Key) > 0, c.Kind == api.RowDelete && len(c.Row) > 0:
		return api.ErrForm
	}
	t := x.schema.Tables[n]
	if c.Kind != api.RowInsert {
		if err := checkKey(t, c.Key); err != api.OK {
			return err
		}
	}
	if c.Kind == api.RowDelete {
		return api.OK
	}
	if len(c.Row) != len(t.Columns) {
		return api.ErrForm
	}
	for i, col := range t.Columns {
		if err := value.Check(col.Kind, c.Row[i]); err != api.OK {
			return err
		}
		if c.Row[i] == null && !col.Null {
			return api.ErrNull
		}
	}
	return api.OK
}

// noteChange notes what P3.11 says of Batch.
func (x *naiveTxn) noteChange(c api.RowChange) {
	t := x.schema.Tables[x.table(c.Table)]
	if c.Kind != api.RowInsert {
		x.note(markOf(c.Key, "key", c.Table))
		for _, other := range x.schema.Tables {
			for _, f := range other.Foreigns {
				if f.Table == c.Table {
					x.note(markOf(c.Key, "foreign", other.Name, f.Name))
				}
			}
		}
	}
	if c.Kind == api.RowDelete {
		return
	}
	x.note(markOf(pickAt(t, c.Row, t.Key), "key", c.Table))
	for _, y := range t.Indexes {
		if l := pickAt(t, c.Row, y.Columns); y.Unique && !slices.Contains(l, null) {
			x.note(markOf(l, "index", c.Table, y.Name))
		}
	}
	for _, f := range t.Foreigns {
		if l := pickAt(t, c.Row, f.Columns); !slices.Contains(l, null) {
			x.note(markOf(l, "key", f.Table))
		}
	}
}

// changed makes changes of rows of data, which it takes over.
func changed(s api.Schema, d api.Data, l []api.RowChange) (api.Data, api.Errno) {
	place := func(name string) int {
		return slices.IndexFunc(s.Tables, func(t api.Table) bool { return t.Name == name })
	}
	seen := map[string]bool{}
	for _, c := range l {
		if c.Kind != api.RowInsert {
			if seen[markOf(c.Key, c.Table)] {
				return d, api.ErrTwice
			}
			seen[markOf(c.Key, c.Table)] = true
		}
	}
	for _, c := range l {
		if c.Kind == api.RowInsert {
			continue
		}
		n := place(c.Table)
		at := slices.IndexFunc(d.Tables[n].Rows, func(r []api.Value) bool { return slices.Equal(pickAt(s.Tables[n], r, s.Tables[n].Key), c.Key) })
		if at < 0 {
			return d, api.ErrNone
		}
		d.Tables[n].Rows = slices.Delete(d.Tables[n].Rows, at, at+1)
	}
	for _, c := range l {
		if c.Kind != api.RowDelete {
			n := place(c.Table)
			d.Tables[n].Rows = append(d.Tables[n].Rows, slices.Clone(c.Row))
		}
	}
	for n, t := range s.Tables {
		slices.SortStableFunc(d.Tables[n].Rows, func(a, b []api.Value) int { return value.CompareLists(pickAt(t, a, t.Key), pickAt(t, b, t.Key)) })
	}
	breaks := wantedBreaks(s, d)
	if slices.ContainsFunc(breaks, func(b api.Break) bool { return b.Kind != api.BadRef }) {
		return d, api.ErrKey
	}
	if len(breaks) > 0 {
		return d, api.ErrRef
	}
	return d, api.OK
}

func (x *naiveTxn) batch(l []api.RowChange) api.Errno {
	for _, c := range l {
		if err := x.checkChange(c); err != api.OK {
			return err
		}
	}
	for _, c := range l {
		x.noteChange(c)
	}
	d, err := changed(x.schema, clone(x.data), l)
	if err == api.OK {
		x.data = d
	}
	return err
}

func (x *naiveTxn) alter(c api.Change) api.Errno {
	x.all()
	s, d, err := store.Changed(x.schema, x.data, c)
	if err == api.OK {
		x.schema, x.data, x.altered = s, d, true
	}
	return err
}

// changes are what leads from the data at the beginning to those of now.
func (x *naiveTxn) changes() []api.RowChange {
	var l []api.RowChange
	for n, t := range x.schema.Tables {
		before, after := map[string][]api.Value{}, map[string][]api.Value{}
		for _, r := range x.start.Tables[n].Rows {
			before[markOf(pickAt(t, r, t.Key))] = r
		}
		for _, r := range x.data.Tables[n].Rows {
			after[markOf(pickAt(t, r, t.Key))] = r
		}
		for _, key := range slices.Sorted(maps.Keys(before)) {
			if r := before[key]; after[key] == nil {
				l = append(l, api.RowChange{Kind: api.RowDelete, Table: t.Name, Key: pickAt(t, r, t.Key)})
			} else if !slices.Equal(r, after[key]) {
				l = append(l, api.RowChange{Kind: api.RowUpdate, Table: t.Name, Key: pickAt(t, r, t.Key), Row: after[key]})
			}
		}
		for _, key := range slices.Sorted(maps.Keys(after)) {
			if before[key] == nil {
				l = append(l, api.RowChange{Kind: api.RowInsert, Table: t.Name, Row: after[key]})
			}
		}
	}
	return l
}

// touch adds the marks of a row.
func touch(marks map[string]bool, t api.Table, r []api.Value) {
	marks[markOf(nil, "table", t.Name)] = true
	marks[markOf(pickAt(t, r, t.Key), "key", t.Name)] = true
	for _, y := range t.Indexes {
		for n := range y.Columns {
			marks[markOf(pickAt(t, r, y.Columns[:n+1]), "index", t.Name, y.Name)] = true
		}
	}
	for _, f := range t.Foreigns {
		marks[markOf(pickAt(t, r, f.Columns), "foreign", t.Name, f.Name)] = true
	}
}

func (x *naiveTxn) commit() api.Errno {
	for _, c := range x.store.commits[x.begun:] {
		if c.altered || x.altered && len(c.marks) > 0 {
			return api.ErrConflict
		}
		for mark := range c.marks {
			if x.noted[mark] {
				return api.ErrConflict
			}
		}
	}
	done := naiveCommit{altered: x.altered, marks: map[string]bool{}}
	if x.altered {
		x.store.schema, x.store.data = x.schema, x.data
	} else {
		l := x.changes()
		for _, c := range l {
			t := x.schema.Tables[x.table(c.Table)]
			for _, r := range x.start.Tables[x.table(c.Table)].Rows {
				if slices.Equal(pickAt(t, r, t.Key), c.Key) {
					touch(done.marks, t, r)
				}
			}
			if c.Kind != api.RowDelete {
				touch(done.marks, t, c.Row)
			}
		}
		d, err := changed(x.schema, clone(x.store.data), l)
		if err != api.OK {
			panic(err)
		}
		x.store.data = d
	}
	x.store.commits = append(x.store.commits, done)
	return api.OK
}

// randomValue makes one of few values of a kind, so that rows often meet.
func randomValue(r *rand.Rand, kind int) api.Value {
	switch kind {
	case api.Bool:
		return boolean(r.Intn(2))
	case api.Int:
		return integer(r.Intn(5))
	case api.Text:
		return text([]string{"", "a", "ab", "1"}[r.Intn(4)])
	}
	return moment(r.Intn(3))
}

// randomRow makes a row of a table, with nulls only where they can be, if it is to be right.
func randomRow(r *rand.Rand, t api.Table, right bool) []api.Value {
	var l []api.Value
	for _, c := range t.Columns {
		v := randomValue(r, c.Kind)
		if r.Intn(2) == 0 && (c.Null || !right) {
			v = null
		}
		l = append(l, v)
	}
	return l
}

// randomChange makes a change of a row, often of one that is there, and seldom one that is wrong.
func randomChange(r *rand.Rand, s api.Schema, d api.Data) api.RowChange {
	n := r.Intn(len(s.Tables))
	t := s.Tables[n]
	c := api.RowChange{Kind: []int{api.RowInsert, api.RowInsert, api.RowUpdate, api.RowUpdate, api.RowDelete}[r.Intn(5)], Table: t.Name}
	before, after := randomRow(r, t, true), randomRow(r, t, true)
	if rows := d.Tables[n].Rows; len(rows) > 0 && r.Intn(4) > 0 {
		before = rows[r.Intn(len(rows))]
	}
	if c.Kind != api.RowInsert {
		c.Key = pickAt(t, before, t.Key)
	}
	if c.Kind != api.RowDelete {
		c.Row = after
	}
	if c.Kind == api.RowUpdate && r.Intn(5) > 0 {
		c.Row = slices.Clone(before)
		at := r.Intn(len(after))
		c.Row[at] = after[at]
	}
	switch r.Intn(40) {
	case 0:
		c.Kind = r.Intn(6)
	case 1:
		c.Table = "none"
	case 2:
		c.Row = append(c.Row, null)
	case 3:
		c.Key = append(c.Key, null)
	case 4:
		if len(c.Row) > 0 {
			c.Row[r.Intn(len(c.Row))] = randomValue(r, 1+r.Intn(4))
		}
	case 5:
		if len(c.Key) > 0 {
			c.Key[0] = []api.Value{null, text("a"), integer(api.MaxInt + 1)}[r.Intn(3)]
		}
	}
	return c
}

// randomAlter makes a change of structure that is often possible.
func randomAlter(r *rand.Rand, s api.Schema) api.Change {
	t := s.Tables[r.Intn(len(s.Tables))]
	column := func() string { return t.Columns[r.Intn(len(t.Columns))].Name }
	name := string(rune('a'+r.Intn(26))) + strconv.Itoa(r.Intn(10))
	c := api.Change{Kind: 1 + r.Intn(15), Table: t.Name, Name: column()}
	switch c.Kind {
	case api.ChCreate:
		c = api.Change{Kind: c.Kind, New: api.Table{Name: name, Columns: []api.Column{{Name: "k", Kind: api.Int}, {Name: "f", Kind: api.Text, Null: true}}, Key: []string{"k"}}}
	case api.ChDrop:
		c.Name = ""
	case api.ChRename:
		c.Name = name
	case api.ChAdd:
		kind := 1 + r.Intn(4)
		c.Name, c.Column = "", api.Column{Name: name, Kind: kind, Null: r.Intn(2) == 0, Default: randomValue(r, kind)}
	case api.ChMove:
		c.Name2 = name
	case api.ChCast:
		c.Column.Kind = 1 + r.Intn(4)
	case api.ChTight, api.ChDefault:
		c.Column.Default = randomValue(r, 1+r.Intn(4))
	case api.ChIndex:
		c.Name, c.Index = "", api.Index{Name: name, Columns: []string{c.Name}, Unique: r.Intn(2) == 0}
	case api.ChForeign:
		to := s.Tables[r.Intn(len(s.Tables))]
		c.Foreign = api.Foreign{Name: name, Table: to.Name}
		for range to.Key {
			c.Foreign.Columns = append(c.Foreign.Columns, column())
		}
		c.Name = ""
	case api.ChUnindex:
		for _, x := range t.Indexes {
			c.Name = x.Name
		}
	case api.ChUnforeign:
		for _, x := range t.Foreigns {
			c.Name = x.Name
		}
	case api.ChOrder:
		c.Name = ""
		for _, i := range r.Perm(len(t.Columns)) {
			c.Columns = append(c.Columns, t.Columns[i].Name)
		}
	}
	return c
}
