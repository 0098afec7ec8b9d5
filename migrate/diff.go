package migrate

import (
	"slices"

	"dumbwaiter/api"
	"dumbwaiter/clone"
	"dumbwaiter/schema"
	"dumbwaiter/value"
)

// Diff returns changes from one schema to another one. What does not stay goes first, and new indexes and foreign keys come last. Keys, indexes and foreign keys that stay hold on the way, too, which does no harm: rows that violate them there would do so at the end.
func Diff(a, b api.Schema, hints []api.Hint) ([]api.Change, api.Errno) {
	if err := CheckHints(a, b, hints); err != api.OK {
		return nil, err
	}
	d := &differ{a: a, b: b, twins: twinsOf(a, b, hints)}
	d.unlink()
	d.drop()
	d.rename()
	for _, t := range d.twins {
		d.reshape(t)
	}
	late := d.create()
	d.link(late)
	if len(d.list) > api.MaxChanges {
		return nil, api.ErrLarge
	}
	return clone.Changes(d.list), api.OK
}

// differ makes the list of changes from one schema to another one.
type differ struct {
	a, b  api.Schema
	twins []twin
	list  []api.Change
}

func (d *differ) add(c api.Change) { d.list = append(d.list, c) }

// match returns the old table with a name and the new one that matches it, and whether there is one.
func (d *differ) match(old string) (twin, bool) {
	place := slices.IndexFunc(d.twins, func(t twin) bool { return t.old.Name == old })
	if place < 0 {
		return twin{}, false
	}
	return d.twins[place], true
}

// keepsForeign reports whether an old foreign key is a new one without any change, but for names.
func (d *differ) keepsForeign(t twin, old, fresh api.Foreign) bool {
	target, there := d.match(old.Table)
	return old.Name == fresh.Name && there && target.fresh.Name == fresh.Table && slices.EqualFunc(old.Columns, fresh.Columns, t.stays)
}

// keepsIndex reports whether an old index is a new one without any change, but for names of columns.
func keepsIndex(t twin, old, fresh api.Index) bool {
	return old.Name == fresh.Name && old.Unique == fresh.Unique && slices.EqualFunc(old.Columns, fresh.Columns, t.matches)
}

// drops returns the names of the tables that are dropped, those that refer to others ahead of these, as far as they are not in a circle.
func (d *differ) drops() []string {
	order, _, _ := schema.Order(d.a)
	slices.Reverse(order)
	return slices.DeleteFunc(order, func(name string) bool {
		_, stays := d.match(name)
		return stays
	})
}

// unlink removes the foreign keys that do not stay, but those that go with their tables.
func (d *differ) unlink() {
	drops := d.drops()
	for _, t := range d.a.Tables {
		match, stays := d.match(t.Name)
		for _, f := range t.Foreigns {
			kept := slices.ContainsFunc(match.fresh.Foreigns, func(g api.Foreign) bool { return d.keepsForeign(match, f, g) })
			// Only in a circle a table is dropped ahead of one that refers to it.
			target := slices.Index(drops, f.Table)
			inTheWay := !stays && target >= 0 && target < slices.Index(drops, t.Name)
			if stays && !kept || inTheWay {
				d.add(api.Change{Kind: api.ChUnforeign, Table: t.Name, Name: f.Name})
			}
		}
	}
}

// drop drops the tables that match none.
func (d *differ) drop() {
	for _, name := range d.drops() {
		d.add(api.Change{Kind: api.ChDrop, Table: name})
	}
}

// rename gives tables their new names.
func (d *differ) rename() {
	var l []naming
	for _, t := range d.twins {
		l = append(l, naming{t.old.Name, t.fresh.Name})
	}
	for _, x := range namings(l) {
		d.add(api.Change{Kind: api.ChRename, Table: x.from, Name: x.to})
	}
}

// create creates the tables that match none, with the foreign keys to tables that are there. It returns the changes that make the others, in circles.
func (d *differ) create() []api.Change {
	order, _, _ := schema.Order(d.b)
	there := map[string]bool{}
	for _, t := range d.twins {
		there[t.fresh.Name] = true
	}
	var late []api.Change
	for _, name := range order {
		if there[name] {
			continue
		}
		there[name] = true
		t := tableOf(d.b, name)
		var early []api.Foreign
		for _, f := range t.Foreigns {
			if there[f.Table] {
				early = append(early, f)
			} else {
				late = append(late, api.Change{Kind: api.ChForeign, Table: name, Foreign: f})
			}
		}
		t.Foreigns = early
		d.add(api.Change{Kind: api.ChCreate, New: t})
	}
	return late
}

// link adds the indexes and foreign keys that are new for tables that match, and further changes that wait for all tables.
func (d *differ) link(late []api.Change) {
	for _, t := range d.twins {
		for _, x := range t.fresh.Indexes {
			if !slices.ContainsFunc(t.old.Indexes, func(old api.Index) bool { return keepsIndex(t, old, x) }) {
				d.add(api.Change{Kind: api.ChIndex, Table: t.fresh.Name, Index: x})
			}
		}
		for _, f := range t.fresh.Foreigns {
			if !slices.ContainsFunc(t.old.Foreigns, func(old api.Foreign) bool { return d.keepsForeign(t, old, f) }) {
				d.add(api.Change{Kind: api.ChForeign, Table: t.fresh.Name, Foreign: f})
			}
		}
	}
	d.list = append(d.list, late...)
}

// reshape changes what tables that match have, but foreign keys and new indexes. The old table has its new name already.
func (d *differ) reshape(t twin) {
	name := t.fresh.Name
	for _, x := range t.old.Indexes {
		if !slices.ContainsFunc(t.fresh.Indexes, func(fresh api.Index) bool { return keepsIndex(t, x, fresh) }) {
			d.add(api.Change{Kind: api.ChUnindex, Table: name, Name: x.Name})
		}
	}
	order := d.renameColumns(t)
	for i, c := range t.fresh.Columns {
		if t.from[i] >= 0 {
			d.turn(name, t.old.Columns[t.from[i]], c)
			continue
		}
		d.extend(name, c)
		order = append(order, c.Name)
	}
	if names := columnNames(t.fresh); !slices.Equal(order, names) {
		d.add(api.Change{Kind: api.ChOrder, Table: name, Columns: names})
	}
}

// renameColumns removes the old columns that match none, and gives the others their new names. It returns the names of those that are left.
func (d *differ) renameColumns(t twin) []string {
	var l []naming
	var left []string
	for i, c := range t.old.Columns {
		place := slices.Index(t.from, i)
		if place < 0 {
			d.add(api.Change{Kind: api.ChRemove, Table: t.fresh.Name, Name: c.Name})
			continue
		}
		to := t.fresh.Columns[place].Name
		l, left = append(l, naming{c.Name, to}), append(left, to)
	}
	for _, x := range namings(l) {
		d.add(api.Change{Kind: api.ChMove, Table: t.fresh.Name, Name: x.from, Name2: x.to})
	}
	return left
}

// turn makes a new column of an old one that has its name already. The kind comes first: a Default of the new kind is what nulls become.
func (d *differ) turn(table string, old, fresh api.Column) {
	initial := old.Default
	set := func(v api.Value) {
		if initial != v {
			initial = v
			d.add(api.Change{Kind: api.ChDefault, Table: table, Name: fresh.Name, Column: api.Column{Default: v}})
		}
	}
	if old.Kind != fresh.Kind {
		cast := value.Cast(initial, fresh.Kind)
		if isNull(cast) {
			set(cast)
		}
		initial = cast
		d.add(api.Change{Kind: api.ChCast, Table: table, Name: fresh.Name, Column: api.Column{Kind: fresh.Kind}})
	}
	switch {
	case fresh.Null && !old.Null:
		d.add(api.Change{Kind: api.ChLoose, Table: table, Name: fresh.Name})
	case old.Null && !fresh.Null:
		d.add(api.Change{Kind: api.ChTight, Table: table, Name: fresh.Name, Column: api.Column{Default: fresh.Default}})
		if isNull(initial) {
			initial = fresh.Default
		}
	}
	set(fresh.Default)
}

// extend adds a new column.
func (d *differ) extend(table string, c api.Column) {
	initial, own := initialOf(c)
	added := c
	added.Default = initial
	d.add(api.Change{Kind: api.ChAdd, Table: table, Column: added})
	if !own {
		d.add(api.Change{Kind: api.ChDefault, Table: table, Name: c.Name, Column: api.Column{Default: c.Default}})
	}
}
