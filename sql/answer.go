package sql

import (
	"slices"

	"dumbwaiter/api"
	"dumbwaiter/schema"
	"dumbwaiter/value"
)

// Answer returns the rows of a select.
func Answer(s api.Schema, d api.Data, st api.Statement, params []api.Value) ([][]api.Value, api.Errno) {
	if err := checkCall(s, d, st, params, st.Kind == api.StSelect); err != api.OK {
		return nil, err
	}
	return engineOf(s, d, params).block(st.Select[0], nil, nil).answer(nil), api.OK
}

// engineOf returns the engine for right data.
func engineOf(s api.Schema, d api.Data, params []api.Value) *engine {
	rows := make(map[string][][]api.Value, len(d.Tables))
	for _, x := range d.Tables {
		rows[x.Table] = x.Rows
	}
	return &engine{tablesOf(s), func(table string) [][]api.Value { return rows[table] }, params}
}

// Effect returns the data behind an insert, update or delete.
func Effect(s api.Schema, d api.Data, st api.Statement, params []api.Value) (api.Data, int, api.Errno) {
	if err := checkCall(s, d, st, params, st.Kind != api.StSelect); err != api.OK {
		return api.Data{}, 0, err
	}
	g := engineOf(s, d, params)
	t := g.tables[st.Table]
	changes := g.changes(st, nil)
	if slices.ContainsFunc(changes, func(c api.RowChange) bool { return lacksValue(t, c.Row) }) {
		return api.Data{}, 0, api.ErrNull
	}
	var next api.Data
	for _, x := range d.Tables {
		rows := x.Rows
		if x.Table == st.Table {
			rows = behind(t, rows, changes)
		}
		next.Tables = append(next.Tables, api.TableRows{Table: x.Table, Rows: mapped(rows, slices.Clone[[]api.Value])})
	}
	if err := schema.CheckData(s, next); err != api.OK {
		return api.Data{}, 0, err
	}
	return next, len(changes), api.OK
}

// lacksValue reports whether a row of a table is null where it cannot be. (The row of a delete has no values.)
func lacksValue(t *api.Table, row []api.Value) bool {
	for i, v := range row {
		if v.Kind == api.Null && !t.Columns[i].Null {
			return true
		}
	}
	return false
}

// behind returns the rows of a table behind changes of them, sorted by Key.
func behind(t *api.Table, rows [][]api.Value, changes []api.RowChange) [][]api.Value {
	key := placesOf(t, t.Key)
	gone := map[string]bool{}
	for _, c := range changes {
		gone[string(value.Key(c.Key))] = true
	}
	var l [][]api.Value
	for _, row := range rows {
		if !gone[string(value.Key(pick(row, key)))] {
			l = append(l, row)
		}
	}
	for _, c := range changes {
		if c.Kind != api.RowDelete {
			l = append(l, c.Row)
		}
	}
	slices.SortFunc(l, func(a, b []api.Value) int { return value.CompareLists(pick(a, key), pick(b, key)) })
	return l
}

// placesOf returns the places of columns of a table.
func placesOf(t *api.Table, names []string) []int {
	columns := columnsOf(t)
	return mapped(names, func(name string) int { return columnPlace(columns, name) })
}

// pick returns the values at some places of a row.
func pick(row []api.Value, places []int) []api.Value {
	return mapped(places, func(place int) api.Value { return row[place] })
}

// changes returns the changes that an insert, update or delete makes. given has the rows of what it reads, where it does not read all of them: of its table, or of sources of its select.
func (g *engine) changes(st api.Statement, given map[string][][]api.Value) []api.RowChange {
	if st.Kind == api.StInsert {
		return g.inserts(st, given)
	}
	rows, isGiven := given[st.Name]
	if !isGiven {
		rows = g.rows(st.Table)
	}
	t := g.tables[st.Table]
	l := &layer{sources: []named{{st.Name, columnsOf(t)}}}
	where, sets := g.codes(st.Where, l), g.codes(st.Sets, l)
	key, places := placesOf(t, t.Key), placesOf(t, st.Columns)
	var changes []api.RowChange
	for _, row := range rows {
		f := &frame{rows: [][]api.Value{row}}
		if !f.all(where) {
			continue
		}
		c := api.RowChange{Kind: api.RowDelete, Table: st.Table, Key: pick(row, key)}
		if st.Kind == api.StUpdate {
			c.Kind, c.Row = api.RowUpdate, slices.Clone(row)
			for i, v := range f.values(sets) {
				c.Row[places[i]] = v
			}
		}
		changes = append(changes, c)
	}
	return changes
}

// inserts returns the changes that an insert makes.
func (g *engine) inserts(st api.Statement, given map[string][][]api.Value) []api.RowChange {
	var l [][]api.Value
	if len(st.Select) > 0 {
		l = g.block(st.Select[0], nil, given).answer(nil)
	}
	for _, row := range st.Rows {
		l = append(l, new(frame).values(g.codes(row, nil)))
	}
	t := g.tables[st.Table]
	places := placesOf(t, st.Columns)
	return mapped(l, func(values []api.Value) api.RowChange {
		row := mapped(t.Columns, func(c api.Column) api.Value { return c.Default })
		for i, v := range values {
			row[places[i]] = v
		}
		return api.RowChange{Kind: api.RowInsert, Table: st.Table, Row: row}
	})
}
