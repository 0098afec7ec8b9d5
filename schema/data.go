package schema

import (
	"slices"

	"dumbwaiter/api"
	"dumbwaiter/value"
)

// CheckData checks data of a schema.
func CheckData(s api.Schema, d api.Data) api.Errno {
	if err := CheckSchema(s); err != api.OK {
		return err
	}
	if !slices.EqualFunc(s.Tables, d.Tables, func(t api.Table, rows api.TableRows) bool { return t.Name == rows.Table }) {
		return api.ErrForm
	}
	for i, t := range s.Tables {
		if err := checkTableRows(t, d.Tables[i].Rows); err != api.OK {
			return err
		}
	}
	return checkReferences(s, d)
}

// checkTableRows checks the rows of a table, apart from what they refer to.
func checkTableRows(t api.Table, rows [][]api.Value) api.Errno {
	if len(rows) > api.MaxRows {
		return api.ErrLarge
	}
	for _, row := range rows {
		if err := checkRow(t, row); err != api.OK {
			return err
		}
	}
	if err := checkSorted(rows, placesOf(t, t.Key)); err != api.OK {
		return err
	}
	for _, x := range t.Indexes {
		if x.Unique && !isUnique(rows, placesOf(t, x.Columns)) {
			return api.ErrKey
		}
	}
	return api.OK
}

// checkRow checks the values of a row.
func checkRow(t api.Table, row []api.Value) api.Errno {
	if len(row) != len(t.Columns) {
		return api.ErrForm
	}
	for i, c := range t.Columns {
		if err := value.Check(c.Kind, row[i]); err != api.OK {
			return err
		}
		if row[i].Kind == api.Null && !c.Null {
			return api.ErrNull
		}
	}
	return api.OK
}

// checkSorted checks that each row has a greater key than the one before.
func checkSorted(rows [][]api.Value, key []int) api.Errno {
	for i := 1; i < len(rows); i++ {
		switch value.CompareLists(pick(rows[i], key), pick(rows[i-1], key)) {
		case -1:
			return api.ErrOrder
		case 0:
			return api.ErrKey
		}
	}
	return api.OK
}

// isUnique reports whether no two rows have the same values in some columns. Rows with a null there do not count.
func isUnique(rows [][]api.Value, places []int) bool {
	seen := map[string]bool{}
	for _, row := range rows {
		l := pick(row, places)
		if hasNull(l) {
			continue
		}
		key := string(value.Key(l))
		if seen[key] {
			return false
		}
		seen[key] = true
	}
	return true
}

// checkReferences checks that the rows to which others refer are there.
func checkReferences(s api.Schema, d api.Data) api.Errno {
	keys := rowsByKey(s.Tables, d)
	for i, t := range s.Tables {
		for _, f := range t.Foreigns {
			places, targets := placesOf(t, f.Columns), keys[tablePlace(s.Tables, f.Table)]
			missing := func(row []api.Value) bool {
				l := pick(row, places)
				_, there := targets[string(value.Key(l))]
				return !hasNull(l) && !there
			}
			if slices.ContainsFunc(d.Tables[i].Rows, missing) {
				return api.ErrRef
			}
		}
	}
	return api.OK
}

// rowsByKey returns, for each table, the places of its rows by the bytes of their keys.
func rowsByKey(tables []api.Table, d api.Data) []map[string]int {
	l := make([]map[string]int, len(tables))
	for i, t := range tables {
		key := placesOf(t, t.Key)
		l[i] = make(map[string]int, len(d.Tables[i].Rows))
		for place, row := range d.Tables[i].Rows {
			l[i][string(value.Key(pick(row, key)))] = place
		}
	}
	return l
}

// placesOf returns the places of columns of a table.
func placesOf(t api.Table, names []string) []int {
	l := make([]int, len(names))
	for i, name := range names {
		l[i] = columnPlace(t.Columns, name)
	}
	return l
}

// pick returns the values at some places of a row.
func pick(row []api.Value, places []int) []api.Value {
	l := make([]api.Value, len(places))
	for i, place := range places {
		l[i] = row[place]
	}
	return l
}

// hasNull reports whether one of some right values is null.
func hasNull(l []api.Value) bool { return slices.Contains(l, api.Value{}) }
