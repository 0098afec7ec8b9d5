package schema

import (
	"slices"

	"dumbwaiter/api"
	"dumbwaiter/listing"
	"dumbwaiter/value"
)

// CheckSchema checks a schema.
func CheckSchema(s api.Schema) api.Errno {
	if len(s.Tables) > api.MaxTables {
		return api.ErrLarge
	}
	before := ""
	for _, t := range s.Tables {
		if err := checkTable(t, before); err != api.OK {
			return err
		}
		before = t.Name
	}
	for _, t := range s.Tables {
		for _, f := range t.Foreigns {
			if err := checkTarget(s, t, f); err != api.OK {
				return err
			}
		}
	}
	return api.OK
}

// checkTable checks a table that stands behind one with a name, apart from what its foreign keys refer to.
func checkTable(t api.Table, before string) api.Errno {
	if err := checkNext(t.Name, before); err != api.OK {
		return err
	}
	if len(t.Columns) > api.MaxColumns || len(t.Key) > api.MaxKeys || len(t.Foreigns) > api.MaxIndexes || len(t.Indexes) > api.MaxIndexes {
		return api.ErrLarge
	}
	return first(
		func() api.Errno { return checkColumns(t.Columns) },
		func() api.Errno { return checkKey(t) },
		func() api.Errno { return checkForeigns(t) },
		func() api.Errno { return checkIndexes(t) },
	)
}

// checkNext checks a name that stands behind another one, or, if that is empty, is the first one.
func checkNext(name, before string) api.Errno {
	switch {
	case !listing.IsTall(name):
		return api.ErrName
	case name <= before:
		return api.ErrOrder
	}
	return api.OK
}

// checkColumns checks the columns of a table.
func checkColumns(l []api.Column) api.Errno {
	for i, c := range l {
		switch {
		case !listing.IsTall(c.Name):
			return api.ErrName
		case columnPlace(l[:i], c.Name) >= 0:
			return api.ErrTwice
		}
		// Its first error is ErrKind, for a kind of which there are no values.
		if err := value.Check(c.Kind, c.Default); err != api.OK {
			return err
		}
	}
	return api.OK
}

// columnPlace returns the place of the column with a name, -1 if there is none.
func columnPlace(l []api.Column, name string) int {
	return slices.IndexFunc(l, func(c api.Column) bool { return c.Name == name })
}

// checkKey checks the Key of a table.
func checkKey(t api.Table) api.Errno {
	if len(t.Key) == 0 {
		return api.ErrForm
	}
	return checkNames(t, t.Key, func(c api.Column) api.Errno {
		if c.Null {
			return api.ErrNull
		}
		return api.OK
	})
}

// checkNames checks names of columns of a table, and each of these columns.
func checkNames(t api.Table, names []string, check func(c api.Column) api.Errno) api.Errno {
	for i, name := range names {
		place := columnPlace(t.Columns, name)
		switch {
		case place < 0:
			return api.ErrName
		case slices.Contains(names[:i], name):
			return api.ErrTwice
		}
		if err := check(t.Columns[place]); err != api.OK {
			return err
		}
	}
	return api.OK
}

// anyColumn accepts every column.
func anyColumn(api.Column) api.Errno { return api.OK }

// checkForeigns checks the foreign keys of a table, apart from what they refer to.
func checkForeigns(t api.Table) api.Errno {
	before := ""
	for _, f := range t.Foreigns {
		if err := checkNext(f.Name, before); err != api.OK {
			return err
		}
		if err := checkNames(t, f.Columns, anyColumn); err != api.OK {
			return err
		}
		before = f.Name
	}
	return api.OK
}

// checkIndexes checks the indexes of a table.
func checkIndexes(t api.Table) api.Errno {
	before := ""
	for _, x := range t.Indexes {
		err := checkNext(x.Name, before)
		switch {
		case err != api.OK:
			return err
		case len(x.Columns) == 0:
			return api.ErrForm
		case len(x.Columns) > api.MaxKeys:
			return api.ErrLarge
		}
		if err := checkNames(t, x.Columns, anyColumn); err != api.OK {
			return err
		}
		before = x.Name
	}
	return api.OK
}

// checkTarget checks what a foreign key of a table refers to.
func checkTarget(s api.Schema, t api.Table, f api.Foreign) api.Errno {
	place := tablePlace(s.Tables, f.Table)
	if place < 0 {
		return api.ErrName
	}
	target := s.Tables[place]
	if len(f.Columns) != len(target.Key) {
		return api.ErrForm
	}
	kind := func(t api.Table, name string) int { return t.Columns[columnPlace(t.Columns, name)].Kind }
	for i, name := range f.Columns {
		if kind(t, name) != kind(target, target.Key[i]) {
			return api.ErrType
		}
	}
	return api.OK
}

// tablePlace returns the place of the table with a name, -1 if there is none.
func tablePlace(l []api.Table, name string) int {
	return slices.IndexFunc(l, func(t api.Table) bool { return t.Name == name })
}
