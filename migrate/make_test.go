package migrate_test

import (
	"math/rand"
	"slices"
	"strings"
	"testing"

	"dumbwaiter/api"
	"dumbwaiter/schema"
	"dumbwaiter/store"
	"dumbwaiter/value"
)

// maker makes schemas, data and changes at random.
type maker struct{ *rand.Rand }

// randomly runs a test with so many seeds.
func randomly(t *testing.T, seeds int, test func(t *testing.T, r *maker)) {
	t.Helper()
	for seed := range seeds {
		test(t, &maker{rand.New(rand.NewSource(int64(seed)))})
		if t.Failed() {
			t.Fatal("seed", seed)
		}
	}
}

// one is one of some elements.
func one[T any](r *maker, l []T) T { return l[r.Intn(len(l))] }

// value is a right value of a kind.
func (r *maker) value(kind int) api.Value {
	switch kind {
	case api.Bool:
		return boolean(r.Intn(2))
	case api.Int:
		return integer(one(r, []int{0, 1, 1, 2, 2, 3, -1}))
	case api.Text:
		return text(one(r, []string{"", "a", "b", "0", "1", "2", "true", "1970-01-01T00:00:01"}))
	}
	return moment(r.Intn(3))
}

// maybe is a right value of a kind, or null.
func (r *maker) maybe(kind int) api.Value {
	if r.Intn(3) == 0 {
		return null
	}
	return r.value(kind)
}

func (r *maker) kind() int {
	return one(r, []int{api.Int, api.Int, api.Int, api.Text, api.Bool, api.Moment})
}

// tableNames, columnNames and partNames are what things are called.
var (
	tableNames  = []string{"a", "b", "c", "d", "spare0"}
	columnNames = []string{"u", "v", "w", "x", "y", "z", "spare0"}
	partNames   = []string{"f", "g", "h"}
)

// column is a column with a name.
func (r *maker) column(name string, canNull bool) api.Column {
	c := api.Column{Name: name, Kind: r.kind(), Null: canNull && r.Intn(2) == 0}
	if r.Intn(2) == 0 {
		c.Default = r.value(c.Kind)
	}
	return c
}

// table is a table without foreign keys.
func (r *maker) table(name string) api.Table {
	t := api.Table{Name: name}
	names := slices.Clone(columnNames)
	r.Shuffle(len(names), func(i, k int) { names[i], names[k] = names[k], names[i] })
	keys := 1 + r.Intn(5)/4
	for i, column := range names[:keys+r.Intn(4)] {
		c := r.column(column, i >= keys)
		if i < keys {
			t.Key = append(t.Key, column)
		}
		t.Columns = append(t.Columns, c)
	}
	if r.Intn(3) == 0 {
		r.Shuffle(len(t.Columns), func(i, k int) { t.Columns[i], t.Columns[k] = t.Columns[k], t.Columns[i] })
	}
	for _, part := range partNames {
		if r.Intn(4) == 0 {
			t.Indexes = append(t.Indexes, r.index(t, part))
		}
	}
	return t
}

// some are one or two different columns of a table, if it has them.
func (r *maker) some(t api.Table) []string {
	var l []string
	for _, i := range r.Perm(len(t.Columns))[:min(1+r.Intn(2), len(t.Columns))] {
		l = append(l, t.Columns[i].Name)
	}
	return l
}

func (r *maker) index(t api.Table, name string) api.Index {
	return api.Index{Name: name, Columns: r.some(t), Unique: r.Intn(2) == 0}
}

// foreign is a foreign key of a table to one of a schema, if the table has columns for it.
func (r *maker) foreign(s api.Schema, t api.Table, name string) (api.Foreign, bool) {
	target := one(r, s.Tables)
	f := api.Foreign{Name: name, Table: target.Name}
	for _, key := range target.Key {
		var fit []string
		for _, c := range t.Columns {
			if c.Kind == target.Columns[place(target, key)].Kind && !slices.Contains(f.Columns, c.Name) {
				fit = append(fit, c.Name)
			}
		}
		if len(fit) == 0 {
			return api.Foreign{}, false
		}
		f.Columns = append(f.Columns, one(r, fit))
	}
	return f, true
}

// place is the place of a column of a table.
func place(t api.Table, name string) int {
	return slices.IndexFunc(t.Columns, func(c api.Column) bool { return c.Name == name })
}

// schema is a right schema.
func (r *maker) schema() api.Schema {
	var s api.Schema
	for _, name := range tableNames {
		if r.Intn(3) > 0 {
			s.Tables = append(s.Tables, r.table(name))
		}
	}
	for i := range s.Tables {
		for _, part := range partNames {
			if f, ok := r.foreign(s, s.Tables[i], part); ok && r.Intn(2) == 0 {
				s.Tables[i].Foreigns = append(s.Tables[i].Foreigns, f)
			}
		}
	}
	if err := schema.CheckSchema(s); err != api.OK {
		panic(err)
	}
	return s
}

// data are right data of a schema.
func (r *maker) data(s api.Schema) api.Data {
	var d api.Data
	for _, t := range s.Tables {
		x := api.TableRows{Table: t.Name}
		for range r.Intn(7) {
			var row []api.Value
			for _, c := range t.Columns {
				v := r.value(c.Kind)
				if c.Null {
					v = r.maybe(c.Kind)
				}
				row = append(row, v)
			}
			x.Rows = append(x.Rows, row)
		}
		slices.SortFunc(x.Rows, func(a, b []api.Value) int { return value.CompareLists(pickAt(t, a, t.Key), pickAt(t, b, t.Key)) })
		d.Tables = append(d.Tables, x)
	}
	return repaired(s, d)
}

// pickAt is the values of columns in a row of a table.
func pickAt(t api.Table, row []api.Value, names []string) []api.Value {
	var l []api.Value
	for _, name := range names {
		l = append(l, row[place(t, name)])
	}
	return l
}

// repaired is data without the rows that violate something.
func repaired(s api.Schema, d api.Data) api.Data {
	for {
		breaks, err := store.Breaks(s, d)
		if err != api.OK {
			panic(err)
		}
		if len(breaks) == 0 {
			return d
		}
		for i := range d.Tables {
			x := &d.Tables[i]
			var rows [][]api.Value
			for k, row := range x.Rows {
				if !slices.ContainsFunc(breaks, func(b api.Break) bool { return b.Table == x.Table && b.Row == k }) {
					rows = append(rows, row)
				}
			}
			x.Rows = rows
		}
	}
}

// change is a change that can be made of a schema.
func (r *maker) change(s api.Schema) api.Change {
	for {
		c := r.guess(s, 1+r.Intn(api.ChOrder))
		if c.Kind != 0 && store.CheckChange(s, c) == api.OK {
			return c
		}
	}
}

// guess is a change that can perhaps be made of a schema, without a kind if there is none.
func (r *maker) guess(s api.Schema, kind int) api.Change {
	c := api.Change{Kind: kind}
	if kind == api.ChCreate {
		c.New = r.table(one(r, tableNames))
		if len(s.Tables) > 0 {
			if f, ok := r.foreign(api.Schema{Tables: append(slices.Clone(s.Tables), c.New)}, c.New, "f"); ok {
				c.New.Foreigns = []api.Foreign{f}
			}
		}
		return c
	}
	if len(s.Tables) == 0 || kind == api.ChDrop && r.Intn(3) > 0 {
		return api.Change{}
	}
	t := one(r, s.Tables)
	c.Table = t.Name
	column := one(r, t.Columns)
	switch kind {
	case api.ChRename:
		c.Name = one(r, tableNames)
	case api.ChAdd:
		c.Column = r.column(one(r, columnNames), true)
	case api.ChRemove, api.ChLoose:
		c.Name = column.Name
	case api.ChMove:
		c.Name, c.Name2 = column.Name, one(r, columnNames)
	case api.ChCast:
		c.Name, c.Column.Kind = column.Name, r.kind()
	case api.ChTight, api.ChDefault:
		c.Name, c.Column.Default = column.Name, r.maybe(column.Kind)
	case api.ChIndex:
		c.Index = r.index(t, one(r, partNames))
	case api.ChForeign:
		c.Foreign, _ = r.foreign(s, t, one(r, partNames))
	case api.ChUnindex, api.ChUnforeign:
		c.Name = one(r, partNames)
	case api.ChOrder:
		c.Columns = r.some(api.Table{Columns: slices.Repeat(t.Columns, 1)})
		for _, x := range t.Columns {
			if !slices.Contains(c.Columns, x.Name) {
				c.Columns = append(c.Columns, x.Name)
			}
		}
	}
	return c
}

// changes are changes that can be made of a schema one after another, and the schema behind them.
func (r *maker) changes(s api.Schema, n int) ([]api.Change, api.Schema) {
	var l []api.Change
	for range n {
		c := r.change(s)
		l = append(l, c)
		var none api.Data
		for _, t := range s.Tables {
			none.Tables = append(none.Tables, api.TableRows{Table: t.Name})
		}
		next, _, err := store.Changed(s, none, c)
		if err != api.OK {
			panic(err)
		}
		s = next
	}
	return l, s
}

// told is the text of a schema.
func told(t testing.TB, s api.Schema) string {
	t.Helper()
	x, err := schema.SchemaText(s)
	must(t, err)
	return x
}

// spoilt is a text with a byte left out, doubled or exchanged, a line left out or doubled, or the text up to a byte.
func (r *maker) spoilt(s string) string {
	i := r.Intn(len(s))
	const others = "'_ \n@-0az"
	l := strings.SplitAfter(s, "\n")
	k := r.Intn(len(l))
	switch r.Intn(6) {
	case 0:
		return s[:i] + s[i+1:]
	case 1:
		return s[:i+1] + s[i:]
	case 2:
		return s[:i] + string(others[r.Intn(len(others))]) + s[i+1:]
	case 3:
		return strings.Join(slices.Concat(l[:k], l[k+1:]), "")
	case 4:
		return strings.Join(slices.Concat(l[:k], l[k:k+1], l[k:]), "")
	}
	return s[:i]
}
