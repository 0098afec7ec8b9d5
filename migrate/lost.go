package migrate

import "dumbwaiter/api"

// Lost returns what changes can lose.
func Lost(s api.Schema, l []api.Change) ([]api.Loss, api.Errno) {
	tracks, found := trailOf(s), map[api.Loss]bool{}
	_, err := walk(s, l, func(x step) {
		if t := tracks[x.Table]; t != nil {
			found[api.Loss{Kind: x.loss(), Table: t.table, Column: t.columns[x.Name]}] = true
		}
		tracks.follow(x.Change)
	})
	if err != api.OK {
		return nil, err
	}
	var told []api.Loss
	tell := func(kind int, table, column string) bool {
		x := api.Loss{Kind: kind, Table: table, Column: column}
		if found[x] {
			told = append(told, x)
		}
		return found[x]
	}
	for _, t := range s.Tables {
		if tell(api.LostTable, t.Name, "") {
			continue
		}
		for _, c := range t.Columns {
			if !tell(api.LostColumn, t.Name, c.Name) {
				tell(api.LostValue, t.Name, c.Name)
				tell(api.LostNull, t.Name, c.Name)
			}
		}
	}
	return told, api.OK
}

// loss returns the kind of what a change loses of the table or the column that it names, 0 if that is nothing.
func (x step) loss() int {
	switch {
	case x.Kind == api.ChDrop:
		return api.LostTable
	case x.Kind == api.ChRemove:
		return api.LostColumn
	case x.makesBools():
		return api.LostValue
	case x.fillsNulls():
		return api.LostNull
	}
	return 0
}

// makesBools reports whether a change casts Ints to Bools, so that different values become equal.
func (x step) makesBools() bool {
	return x.Kind == api.ChCast && x.column().Kind == api.Int && x.Column.Kind == api.Bool
}

// fillsNulls reports whether a change puts values in the place of nulls.
func (x step) fillsNulls() bool { return x.Kind == api.ChTight && !isNull(x.Column.Default) }
