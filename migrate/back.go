package migrate

import (
	"slices"

	"dumbwaiter/api"
	"dumbwaiter/clone"
	"dumbwaiter/value"
)

// Back returns the changes that lead back.
func Back(s api.Schema, l []api.Change) ([]api.Change, api.Errno) {
	var inverses [][]api.Change
	_, err := walk(s, l, func(x step) { inverses = append(inverses, x.inverse()) })
	if err != api.OK {
		return nil, err
	}
	slices.Reverse(inverses)
	back := slices.Concat(inverses...)
	if len(back) > api.MaxChanges {
		return nil, api.ErrLarge
	}
	return clone.Changes(back), api.OK
}

// inverse returns the changes that take a change back.
func (x step) inverse() []api.Change {
	back := api.Change{Table: x.Table}
	switch x.Kind {
	case api.ChRemove:
		return x.inverseOfRemove()
	case api.ChCast:
		return x.inverseOfCast()
	case api.ChLoose:
		return x.inverseOfLoose()
	case api.ChTight:
		return x.inverseOfTight()
	case api.ChCreate:
		back = api.Change{Kind: api.ChDrop, Table: x.New.Name}
	case api.ChDrop:
		back = api.Change{Kind: api.ChCreate, New: x.table()}
	case api.ChRename:
		back = api.Change{Kind: api.ChRename, Table: x.Name, Name: x.Table}
	case api.ChAdd:
		back.Kind, back.Name = api.ChRemove, x.Column.Name
	case api.ChMove:
		back.Kind, back.Name, back.Name2 = api.ChMove, x.Name2, x.Name
	case api.ChDefault:
		back = x.oldDefault()
	case api.ChIndex:
		back.Kind, back.Name = api.ChUnindex, x.Index.Name
	case api.ChUnindex:
		back.Kind, back.Index = api.ChIndex, x.index()
	case api.ChForeign:
		back.Kind, back.Name = api.ChUnforeign, x.Foreign.Name
	case api.ChUnforeign:
		back.Kind, back.Foreign = api.ChForeign, x.foreign()
	case api.ChOrder:
		back = x.oldOrder()
	}
	return []api.Change{back}
}

// index returns the index that the change names, as it is ahead of it.
func (x step) index() api.Index {
	l := x.table().Indexes
	return l[slices.IndexFunc(l, func(i api.Index) bool { return i.Name == x.Name })]
}

// foreign returns the foreign key that the change names, as it is ahead of it.
func (x step) foreign() api.Foreign {
	l := x.table().Foreigns
	return l[slices.IndexFunc(l, func(f api.Foreign) bool { return f.Name == x.Name })]
}

// oldDefault returns the change that gives a column the Default that it had.
func (x step) oldDefault() api.Change {
	return api.Change{Kind: api.ChDefault, Table: x.Table, Name: x.Name, Column: api.Column{Default: x.column().Default}}
}

// oldOrder returns the change that gives the columns the order that they had.
func (x step) oldOrder() api.Change {
	return api.Change{Kind: api.ChOrder, Table: x.Table, Columns: columnNames(x.table())}
}

func (x step) inverseOfRemove() []api.Change {
	c := x.column()
	initial, own := initialOf(c)
	c.Default = initial
	l := []api.Change{{Kind: api.ChAdd, Table: x.Table, Column: c}}
	if !own {
		l = append(l, x.oldDefault())
	}
	if columns := x.table().Columns; columns[len(columns)-1].Name != x.Name {
		l = append(l, x.oldOrder())
	}
	return l
}

func (x step) inverseOfCast() []api.Change {
	c := x.column()
	l := []api.Change{{Kind: api.ChCast, Table: x.Table, Name: x.Name, Column: api.Column{Kind: c.Kind}}}
	if value.Cast(value.Cast(c.Default, x.Column.Kind), c.Kind) != c.Default {
		l = append(l, x.oldDefault())
	}
	return l
}

func (x step) inverseOfLoose() []api.Change {
	c := x.column()
	tight := api.Change{Kind: api.ChTight, Table: x.Table, Name: x.Name, Column: api.Column{Default: c.Default}}
	if !isNull(c.Default) {
		return []api.Change{tight}
	}
	tight.Column.Default = zero(c.Kind)
	return []api.Change{tight, x.oldDefault()}
}

func (x step) inverseOfTight() []api.Change {
	l := []api.Change{{Kind: api.ChLoose, Table: x.Table, Name: x.Name}}
	if isNull(x.column().Default) {
		l = append(l, x.oldDefault())
	}
	return l
}
