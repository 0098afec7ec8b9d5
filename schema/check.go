package schema

import (
	"slices"

	"dumbwaiter/api"
	"dumbwaiter/value"
)

// Check checks a model.
func Check(m api.Model) api.Errno {
	v := emptyView(m)
	return first(
		func() api.Errno { return checkEmbeds(m) },
		v.checkEntities,
		func() api.Errno { return v.each(v.checkRelations) },
		func() api.Errno { return v.each(v.checkInside) },
		func() api.Errno { return checkSize(v.tables()) },
	)
}

// each returns the error of the first entity that has one.
func (v *view) each(check func(place int) api.Errno) api.Errno {
	for place := range v.model.Entities {
		if err := check(place); err != api.OK {
			return err
		}
	}
	return api.OK
}

// checkEmbeds returns the errors of item 1 of P2.2.
func checkEmbeds(m api.Model) api.Errno {
	if len(m.Embeds) > api.MaxEmbeds {
		return api.ErrLarge
	}
	for i, embed := range m.Embeds {
		switch {
		case !isName(embed.Name):
			return api.ErrName
		case hasEmbed(m.Embeds[:i], embed.Name):
			return api.ErrTwice
		case len(embed.Fields) > api.MaxFields:
			return api.ErrLarge
		}
		if err := checkEmbedFields(m, embed.Fields); err != api.OK {
			return err
		}
	}
	return api.OK
}

// checkEmbedFields checks the fields of an embedded value.
func checkEmbedFields(m api.Model, fields []api.Field) api.Errno {
	for i, f := range fields {
		err := checkField(m, f)
		switch {
		case err != api.OK:
			return err
		case slices.ContainsFunc(fields[:i], func(o api.Field) bool { return o.Name == f.Name }):
			return api.ErrTwice
		case f.Kind == 0:
			return api.ErrKind
		case len(f.Formula) > 0:
			return api.ErrForm
		}
	}
	return api.OK
}

// hasEmbed reports whether one of some embedded values has a name.
func hasEmbed(l []api.Embed, name string) bool {
	return slices.ContainsFunc(l, func(e api.Embed) bool { return e.Name == name })
}

// checkField returns the errors of a field.
func checkField(m api.Model, f api.Field) api.Errno {
	switch {
	case !isName(f.Name):
		return api.ErrName
	case f.Kind != 0 && !isKind(f.Kind):
		return api.ErrKind
	case f.Kind == 0 && (!isPlain(f) || len(f.Formula) > 0):
		return api.ErrForm
	case f.Kind == 0 && !hasEmbed(m.Embeds, f.Of):
		return api.ErrName
	case f.Kind == 0:
		return api.OK
	case f.Of != "" || len(f.Texts) > 0 && f.Kind != api.Text || len(f.Formula) > 1 || len(f.Formula) == 1 && !isPlain(f):
		return api.ErrForm
	case len(f.Texts) > api.MaxTexts:
		return api.ErrLarge
	}
	return checkTexts(f)
}

// isPlain reports whether a field says nothing of values that are stored.
func isPlain(f api.Field) bool {
	return !f.Null && f.Default == api.Value{} && len(f.Texts) == 0
}

// checkTexts checks the permitted texts and the Default of a field.
func checkTexts(f api.Field) api.Errno {
	for i, s := range f.Texts {
		if err := value.Check(api.Text, textOf(s)); err != api.OK {
			return err
		}
		if slices.Contains(f.Texts[:i], s) {
			return api.ErrTwice
		}
	}
	if err := value.Check(f.Kind, f.Default); err != api.OK {
		return err
	}
	if !permits(f.Texts, f.Default) {
		return api.ErrArg
	}
	return api.OK
}

// permits reports whether a right value of a field is null or a permitted one.
func permits(texts []string, v api.Value) bool {
	return len(texts) == 0 || v.Kind == api.Null || slices.Contains(texts, v.S)
}

// textOf returns a Text.
func textOf(s string) api.Value { return api.Value{Kind: api.Text, S: s} }

// checkEntities returns the errors of item 2 of P2.2. If there are none, all entities have been added.
func (v *view) checkEntities() api.Errno {
	if len(v.model.Entities) > api.MaxEntities {
		return api.ErrLarge
	}
	type claim struct {
		root int
		name string
	}
	claims := map[claim]bool{}
	for _, entity := range v.model.Entities {
		if err := v.checkHead(entity); err != api.OK {
			return err
		}
		root := v.add()
		free := func(name string) bool {
			c := claim{root, name}
			taken := isReserved(name) || claims[c]
			claims[c] = true
			return !taken
		}
		if err := checkMembers(v.model, entity, free); err != api.OK {
			return err
		}
	}
	return api.OK
}

// checkHead returns the errors of an entity ahead of those of its fields.
func (v *view) checkHead(e api.Entity) api.Errno {
	_, twice := v.places[e.Name]
	_, above := v.places[e.Parent]
	switch {
	case !isName(e.Name):
		return api.ErrName
	case twice:
		return api.ErrTwice
	case e.Parent != "" && !above:
		return api.ErrName
	case e.Parent != "" && (e.Apart || e.Version || e.Soft || e.Tenant):
		return api.ErrForm
	case len(e.Fields) > api.MaxFields, len(e.Relations) > api.MaxRelated, len(e.Uniques) > api.MaxLists, len(e.Indexes) > api.MaxLists:
		return api.ErrLarge
	}
	return api.OK
}

// checkMembers checks the fields of an entity and the names of its relations. free takes a name in the family, and reports whether it was free.
func checkMembers(m api.Model, e api.Entity, free func(name string) bool) api.Errno {
	for _, f := range e.Fields {
		if err := checkField(m, f); err != api.OK {
			return err
		}
		if !free(f.Name) {
			return api.ErrTwice
		}
	}
	for _, r := range e.Relations {
		if !isName(r.Name) || isOption(r.Name) {
			return api.ErrName
		}
		if !free(r.Name) {
			return api.ErrTwice
		}
	}
	return api.OK
}

// checkRelations returns the errors of item 3 of P2.2 for an entity.
func (v *view) checkRelations(place int) api.Errno {
	for _, r := range v.entity(place).Relations {
		if err := v.checkRelation(place, r); err != api.OK {
			return err
		}
	}
	return api.OK
}

// checkRelation checks a relation of an entity.
func (v *view) checkRelation(place int, r api.Relation) api.Errno {
	switch {
	case r.Kind < api.RelOne || r.Kind > api.RelPairs:
		return api.ErrKind
	case !isFormed(r):
		return api.ErrForm
	case r.Kind == api.RelOne && (r.OnDelete < api.Refuse || r.OnDelete > api.Clear):
		return api.ErrArg
	case r.Need && r.OnDelete == api.Clear:
		return api.ErrForm
	}
	to, ok := v.places[r.To]
	switch {
	case !ok:
		return api.ErrName
	case r.Kind == api.RelMany:
		return v.checkMany(place, to, r.Back)
	case v.root(to).Tenant && !v.root(place).Tenant:
		return api.ErrTenant
	case r.Kind == api.RelPairs && r.Back != "":
		return v.checkBack(place, to, r)
	}
	return api.OK
}

// isFormed reports whether the fields that the Kind of a relation does not use are zero, and Back of a RelMany is not.
func isFormed(r api.Relation) bool {
	if r.Kind == api.RelOne {
		return r.Back == ""
	}
	return !r.Need && r.OnDelete == 0 && (r.Kind == api.RelPairs || r.Back != "")
}

// checkMany checks Back of a RelMany to an entity.
func (v *view) checkMany(place, to int, back string) api.Errno {
	for _, one := range v.shape(to).ones {
		if one.Name != back {
			continue
		}
		// That there is an entity To is not yet said of later relations.
		if refers, ok := v.places[one.To]; ok && v.isOf(place, refers) {
			return api.OK
		}
		return api.ErrType
	}
	return api.ErrName
}

// checkBack checks Back of a RelPairs to an entity.
func (v *view) checkBack(place, to int, r api.Relation) api.Errno {
	other, _, ok := v.relation(to, r.Back, api.RelPairs)
	switch {
	case !ok:
		return api.ErrName
	case other.To != v.entity(place).Name || other.Back != r.Name:
		return api.ErrType
	}
	return api.OK
}

// checkInside returns the errors of item 4 of P2.2 for an entity.
func (v *view) checkInside(place int) api.Errno {
	e, own := v.entity(place), v.owns[place].all()
	for _, l := range slices.Concat(e.Uniques, e.Indexes) {
		if err := checkList(own, l); err != api.OK {
			return err
		}
	}
	var cells []api.Cell
	for _, s := range v.shape(place).values {
		cells = append(cells, api.Cell{Name: s.Name, Kind: s.Kind})
	}
	for _, f := range e.Fields {
		if err := checkFormula(f, cells); err != api.OK {
			return err
		}
	}
	return api.OK
}

// checkList checks a list of Uniques or Indexes of an entity with these slots of its own.
func checkList(own []slot, l []string) api.Errno {
	if len(l) == 0 || len(l) > api.MaxKeys-1 {
		return api.ErrForm
	}
	for i, name := range l {
		if !slices.ContainsFunc(own, func(s slot) bool { return s.Name == name }) {
			return api.ErrName
		}
		if slices.Contains(l[:i], name) {
			return api.ErrTwice
		}
	}
	return api.OK
}

// checkFormula checks the Formula of a field, if there is one, that can name some columns.
func checkFormula(f api.Field, cells []api.Cell) api.Errno {
	for _, formula := range f.Formula {
		kind, err := value.KindOf(formula, cells, nil)
		if err != api.OK {
			return err
		}
		if kind != api.Null && kind != f.Kind {
			return api.ErrType
		}
	}
	return api.OK
}

// checkSize returns the error of item 5 of P2.2 for the tables of a model.
func checkSize(tables []api.Table) api.Errno {
	large := func(t api.Table) bool {
		return len(t.Columns) > api.MaxColumns || len(t.Indexes) > api.MaxIndexes || len(t.Foreigns) > api.MaxIndexes
	}
	if len(tables) > api.MaxTables || slices.ContainsFunc(tables, large) {
		return api.ErrLarge
	}
	return api.OK
}
