package store

import (
	"slices"
	"strings"

	"dumbwaiter/api"
	"dumbwaiter/clone"
	"dumbwaiter/schema"
	"dumbwaiter/value"
)

// CheckChange says whether a change can be made of a schema.
func CheckChange(s api.Schema, c api.Change) api.Errno {
	if err := schema.CheckSchema(s); err != api.OK {
		return err
	}
	_, err := changedSchema(s, c)
	return err
}

// changedSchema returns the schema behind a change of a right schema.
func changedSchema(s api.Schema, c api.Change) (api.Schema, api.Errno) {
	if c.Kind < api.ChCreate || c.Kind > api.ChOrder {
		return api.Schema{}, api.ErrKind
	}
	if !isLean(c) {
		return api.Schema{}, api.ErrForm
	}
	a := alteration{Change: c, schema: clone.Schema(s)}
	if c.Kind != api.ChCreate {
		place := a.tablePlace(c.Table)
		if place < 0 {
			return api.Schema{}, api.ErrName
		}
		a.table = &a.schema.Tables[place]
	}
	err := a.apply()
	if err == api.OK {
		slices.SortFunc(a.schema.Tables, func(x, y api.Table) int { return strings.Compare(x.Name, y.Name) })
		err = schema.CheckSchema(a.schema)
	}
	if err != api.OK {
		return api.Schema{}, err
	}
	return a.schema, api.OK
}

// The fields that a kind of change uses.
const (
	usesTable = 1 << iota
	usesName
	usesName2
	usesColumn
	usesKind    // of Column
	usesDefault // of Column
	usesIndex
	usesForeign
	usesNew
	usesColumns
)

// uses has the fields that each kind of change uses.
var uses = [...]int{
	api.ChCreate:    usesNew,
	api.ChDrop:      usesTable,
	api.ChRename:    usesTable | usesName,
	api.ChAdd:       usesTable | usesColumn,
	api.ChRemove:    usesTable | usesName,
	api.ChMove:      usesTable | usesName | usesName2,
	api.ChCast:      usesTable | usesName | usesKind,
	api.ChLoose:     usesTable | usesName,
	api.ChTight:     usesTable | usesName | usesDefault,
	api.ChDefault:   usesTable | usesName | usesDefault,
	api.ChIndex:     usesTable | usesIndex,
	api.ChUnindex:   usesTable | usesName,
	api.ChForeign:   usesTable | usesForeign,
	api.ChUnforeign: usesTable | usesName,
	api.ChOrder:     usesTable | usesColumns,
}

// isLean reports whether the fields that a change of a known kind does not use are zero.
func isLean(c api.Change) bool {
	allowed := func(use int, zero bool) bool { return zero || uses[c.Kind]&use != 0 }
	return allowed(usesTable, c.Table == "") &&
		allowed(usesName, c.Name == "") &&
		allowed(usesName2, c.Name2 == "") &&
		allowed(usesColumn, c.Column.Name == "" && !c.Column.Null) &&
		allowed(usesColumn|usesKind, c.Column.Kind == 0) &&
		allowed(usesColumn|usesDefault, c.Column.Default == api.Value{}) &&
		allowed(usesIndex, c.Index.Name == "" && len(c.Index.Columns) == 0 && !c.Index.Unique) &&
		allowed(usesForeign, c.Foreign.Name == "" && len(c.Foreign.Columns) == 0 && c.Foreign.Table == "") &&
		allowed(usesNew, isBlank(c.New)) &&
		allowed(usesColumns, len(c.Columns) == 0)
}

// isBlank reports whether a table is zero.
func isBlank(t api.Table) bool {
	return t.Name == "" && len(t.Columns) == 0 && len(t.Key) == 0 && len(t.Foreigns) == 0 && len(t.Indexes) == 0
}

// alteration is a change that is being made of a schema.
type alteration struct {
	api.Change
	schema api.Schema
	table  *api.Table // nil for ChCreate
}

// apply makes the change, if the rules of its kind allow it. Whether the schema is right then, and with it new names are tall, schema.CheckSchema says.
func (a *alteration) apply() api.Errno {
	switch a.Kind {
	case api.ChCreate:
		return a.create()
	case api.ChDrop:
		return a.drop()
	case api.ChRename:
		return a.rename()
	case api.ChAdd:
		return a.add()
	case api.ChRemove:
		return a.remove()
	case api.ChMove:
		return a.move()
	case api.ChCast:
		return a.cast()
	case api.ChLoose:
		return a.loose()
	case api.ChTight:
		return a.tight()
	case api.ChDefault:
		return a.setDefault()
	case api.ChIndex:
		return include(&a.table.Indexes, indexName, clone.Index(a.Index))
	case api.ChUnindex:
		return exclude(&a.table.Indexes, indexName, a.Name)
	case api.ChForeign:
		return include(&a.table.Foreigns, foreignName, clone.Foreign(a.Foreign))
	case api.ChUnforeign:
		return exclude(&a.table.Foreigns, foreignName, a.Name)
	}
	return a.order()
}

func indexName(x api.Index) string     { return x.Name }
func foreignName(f api.Foreign) string { return f.Name }

// include adds an element with a new name to a sorted list.
func include[T any](l *[]T, name func(T) string, x T) api.Errno {
	for _, y := range *l {
		if name(y) == name(x) {
			return api.ErrTwice
		}
	}
	*l = append(*l, x)
	slices.SortFunc(*l, func(y, z T) int { return strings.Compare(name(y), name(z)) })
	return api.OK
}

// exclude removes the element with a name from a list.
func exclude[T any](l *[]T, name func(T) string, gone string) api.Errno {
	place := slices.IndexFunc(*l, func(x T) bool { return name(x) == gone })
	if place < 0 {
		return api.ErrName
	}
	*l = slices.Delete(*l, place, place+1)
	return api.OK
}

// tablePlace returns the place of the table with a name, -1 if there is none.
func (a *alteration) tablePlace(name string) int {
	return slices.IndexFunc(a.schema.Tables, func(t api.Table) bool { return t.Name == name })
}

// columnPlace returns the place of the column with a name, -1 if there is none.
func columnPlace(t *api.Table, name string) int {
	return slices.IndexFunc(t.Columns, func(c api.Column) bool { return c.Name == name })
}

// column returns the column that the change names, nil if there is none.
func (a *alteration) column() *api.Column {
	place := columnPlace(a.table, a.Name)
	if place < 0 {
		return nil
	}
	return &a.table.Columns[place]
}

// isKey reports whether the column that the change names is one of the key.
func (a *alteration) isKey() bool { return slices.Contains(a.table.Key, a.Name) }

// isForeign reports whether the column that the change names is one of a foreign key.
func (a *alteration) isForeign() bool {
	return slices.ContainsFunc(a.table.Foreigns, func(f api.Foreign) bool { return slices.Contains(f.Columns, a.Name) })
}

// isIndexed reports whether the column that the change names is one of an index.
func (a *alteration) isIndexed() bool {
	return slices.ContainsFunc(a.table.Indexes, func(x api.Index) bool { return slices.Contains(x.Columns, a.Name) })
}

// isTarget reports whether a foreign key of a table refers to the table that the change names.
func (a *alteration) isTarget(t api.Table) bool {
	return slices.ContainsFunc(t.Foreigns, func(f api.Foreign) bool { return f.Table == a.Table })
}

func (a *alteration) create() api.Errno {
	if a.tablePlace(a.New.Name) >= 0 {
		return api.ErrTwice
	}
	a.schema.Tables = append(a.schema.Tables, clone.Table(a.New))
	return api.OK
}

func (a *alteration) drop() api.Errno {
	if slices.ContainsFunc(a.schema.Tables, func(t api.Table) bool { return t.Name != a.Table && a.isTarget(t) }) {
		return api.ErrRef
	}
	place := a.tablePlace(a.Table)
	a.schema.Tables = slices.Delete(a.schema.Tables, place, place+1)
	return api.OK
}

func (a *alteration) rename() api.Errno {
	if a.tablePlace(a.Name) >= 0 {
		return api.ErrTwice
	}
	a.table.Name = a.Name
	for _, t := range a.schema.Tables {
		for i := range t.Foreigns {
			if t.Foreigns[i].Table == a.Table {
				t.Foreigns[i].Table = a.Name
			}
		}
	}
	return api.OK
}

func (a *alteration) add() api.Errno {
	switch {
	case columnPlace(a.table, a.Column.Name) >= 0:
		return api.ErrTwice
	case !a.Column.Null && a.Column.Default == api.Value{}:
		return api.ErrNull
	}
	a.table.Columns = append(a.table.Columns, a.Column)
	return api.OK
}

func (a *alteration) remove() api.Errno {
	place := columnPlace(a.table, a.Name)
	switch {
	case place < 0:
		return api.ErrName
	case a.isKey() || a.isForeign() || a.isIndexed():
		return api.ErrRef
	}
	a.table.Columns = slices.Delete(a.table.Columns, place, place+1)
	return api.OK
}

func (a *alteration) move() api.Errno {
	c := a.column()
	switch {
	case c == nil:
		return api.ErrName
	case columnPlace(a.table, a.Name2) >= 0:
		return api.ErrTwice
	}
	c.Name = a.Name2
	a.replace(a.table.Key)
	for _, f := range a.table.Foreigns {
		a.replace(f.Columns)
	}
	for _, x := range a.table.Indexes {
		a.replace(x.Columns)
	}
	return api.OK
}

// replace gives the column that the change names its new name in a list.
func (a *alteration) replace(names []string) {
	if place := slices.Index(names, a.Name); place >= 0 {
		names[place] = a.Name2
	}
}

func (a *alteration) cast() api.Errno {
	c := a.column()
	if c == nil {
		return api.ErrName
	}
	def := value.Cast(c.Default, a.Column.Kind)
	switch {
	case !value.Can(c.Kind, a.Column.Kind) || c.Kind == a.Column.Kind || c.Default.Kind != api.Null && def.Kind == api.Null:
		return api.ErrType
	case a.isForeign() || a.isKey() && slices.ContainsFunc(a.schema.Tables, a.isTarget):
		return api.ErrRef
	}
	c.Kind, c.Default = a.Column.Kind, def
	return api.OK
}

func (a *alteration) loose() api.Errno {
	c := a.column()
	switch {
	case c == nil:
		return api.ErrName
	case a.isKey():
		return api.ErrRef
	case c.Null:
		return api.ErrState
	}
	c.Null = true
	return api.OK
}

func (a *alteration) tight() api.Errno {
	c := a.column()
	switch {
	case c == nil:
		return api.ErrName
	case !c.Null:
		return api.ErrState
	}
	if err := value.Check(c.Kind, a.Column.Default); err != api.OK {
		return err
	}
	c.Null = false
	if c.Default.Kind == api.Null {
		c.Default = a.Column.Default
	}
	return api.OK
}

func (a *alteration) setDefault() api.Errno {
	c := a.column()
	if c == nil {
		return api.ErrName
	}
	c.Default = a.Column.Default
	return value.Check(c.Kind, c.Default)
}

func (a *alteration) order() api.Errno {
	l := make([]api.Column, 0, len(a.table.Columns))
	for i, name := range a.Columns {
		place := columnPlace(a.table, name)
		switch {
		case place < 0:
			return api.ErrName
		case slices.Contains(a.Columns[:i], name):
			return api.ErrTwice
		}
		l = append(l, a.table.Columns[place])
	}
	if len(l) < len(a.table.Columns) {
		return api.ErrForm
	}
	a.table.Columns = l
	return api.OK
}
