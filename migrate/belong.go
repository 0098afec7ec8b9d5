package migrate

import (
	"slices"

	"dumbwaiter/api"
	"dumbwaiter/schema"
	"dumbwaiter/value"
)

// CheckHints checks hints.
func CheckHints(a, b api.Schema, hints []api.Hint) api.Errno {
	for _, s := range []api.Schema{a, b} {
		if err := schema.CheckSchema(s); err != api.OK {
			return err
		}
	}
	if len(hints) > api.MaxHints {
		return api.ErrLarge
	}
	for i, h := range hints {
		if !isKnown(a, b, h) {
			return api.ErrName
		}
		if slices.ContainsFunc(hints[:i], func(earlier api.Hint) bool { return isTwice(earlier, h) }) {
			return api.ErrTwice
		}
	}
	tables := partners(tableNames(a), tableNames(b), hints, "")
	for _, h := range hints {
		if h.Column != "" && columnPlace(tableOf(b, tables[h.Table]), h.To) < 0 {
			return api.ErrName
		}
	}
	return api.OK
}

// isKnown reports whether what a hint names is there; not yet whether there is the new name of a column.
func isKnown(a, b api.Schema, h api.Hint) bool {
	place := tablePlace(a, h.Table)
	switch {
	case place < 0:
		return false
	case h.Column == "":
		return tablePlace(b, h.To) >= 0
	}
	return columnPlace(a.Tables[place], h.Column) >= 0
}

// isTwice reports whether two hints have the same old name, or the same new name of the same things.
func isTwice(x, y api.Hint) bool {
	if x.Table == y.Table && x.Column == y.Column {
		return true
	}
	return x.To == y.To && (x.Column == "") == (y.Column == "") && (x.Column == "" || x.Table == y.Table)
}

// tableNames returns the names of the tables of a schema.
func tableNames(s api.Schema) []string {
	var l []string
	for _, t := range s.Tables {
		l = append(l, t.Name)
	}
	return l
}

// partners returns the new names of what belongs together, by the old ones: of tables, or, with the old name of a table, of its columns.
func partners(old, fresh []string, hints []api.Hint, table string) map[string]string {
	found, told := map[string]string{}, map[string]bool{}
	for _, h := range hints {
		switch {
		case table == "" && h.Column == "":
			found[h.Table] = h.To
		case table != "" && h.Column != "" && h.Table == table:
			found[h.Column] = h.To
		default:
			continue
		}
		told[h.To] = true
	}
	for _, name := range old {
		if _, hinted := found[name]; !hinted && !told[name] && slices.Contains(fresh, name) {
			found[name] = name
		}
	}
	return found
}

// twin is two tables that match. For each column of the new one, from has the place of the column of the old one that matches it, or -1.
type twin struct {
	old, fresh api.Table
	from       []int
}

// twinsOf returns the tables that match, in the order of the new ones.
func twinsOf(a, b api.Schema, hints []api.Hint) []twin {
	var l []twin
	tables := partners(tableNames(a), tableNames(b), hints, "")
	old := map[string]string{}
	for from, to := range tables {
		old[to] = from
	}
	for _, fresh := range b.Tables {
		place := tablePlace(a, old[fresh.Name])
		if place < 0 {
			continue
		}
		if t := twinOf(a.Tables[place], fresh, hints); t.isMatch() {
			l = append(l, t)
		}
	}
	return l
}

// twinOf returns two tables that belong together with what matches of their columns.
func twinOf(old, fresh api.Table, hints []api.Hint) twin {
	t := twin{old: old, fresh: fresh, from: slices.Repeat([]int{-1}, len(fresh.Columns))}
	names := partners(columnNames(old), columnNames(fresh), hints, old.Name)
	for i, c := range old.Columns {
		place := columnPlace(fresh, names[c.Name])
		if place < 0 {
			continue
		}
		if kind := fresh.Columns[place].Kind; kind == c.Kind || value.Can(c.Kind, kind) {
			t.from[place] = i
		}
	}
	return t
}

// isMatch reports whether the columns of both keys match one by one.
func (t twin) isMatch() bool { return slices.EqualFunc(t.old.Key, t.fresh.Key, t.matches) }

// matches reports whether an old column and a new one match.
func (t twin) matches(old, fresh string) bool {
	return t.from[columnPlace(t.fresh, fresh)] == columnPlace(t.old, old)
}

// stays reports whether an old column and a new one match, and are of one kind.
func (t twin) stays(old, fresh string) bool {
	return t.matches(old, fresh) && columnOf(t.old, old).Kind == columnOf(t.fresh, fresh).Kind
}
