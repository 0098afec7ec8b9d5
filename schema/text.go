package schema

import (
	"dumbwaiter/api"
	"dumbwaiter/listing"
	"dumbwaiter/value"
)

// Text writes a model.
func Text(m api.Model) (string, api.Errno) {
	if err := Check(m); err != api.OK {
		return "", err
	}
	return modelText(m)
}

// modelText returns the text of a model that consists of the parts that texts have. Its only error is ErrLarge.
func modelText(m api.Model) (string, api.Errno) {
	var l listing.Writer
	for _, e := range m.Embeds {
		l.Line("embed", e.Name)
		if !writeFields(&l, e.Fields) {
			return "", api.ErrLarge
		}
	}
	for _, e := range m.Entities {
		l.Line(headWords(e)...)
		if !writeFields(&l, e.Fields) {
			return "", api.ErrLarge
		}
		for _, r := range e.Relations {
			l.Line(relationLine(r)...)
		}
		for _, list := range e.Uniques {
			l.Line(append(listing.Words{"unique"}, list...)...)
		}
		for _, list := range e.Indexes {
			l.Line(append(listing.Words{"index"}, list...)...)
		}
	}
	return l.Text()
}

// headWords returns the words of the first line of an entity.
func headWords(e api.Entity) listing.Words {
	return listing.Words{"entity", e.Name}.When(e.Parent != "", "of", e.Parent).
		When(e.Apart, "apart").When(e.Version, "version").When(e.Soft, "soft").When(e.Tenant, "tenant")
}

// writeFields writes fields, unless a Formula has no text because that would be too long.
func writeFields(l *listing.Writer, fields []api.Field) bool {
	for _, f := range fields {
		w, ok := fieldWords(f)
		if !ok {
			return false
		}
		l.Line(w...)
	}
	return true
}

// fieldWords returns the words of the line of a field.
func fieldWords(f api.Field) (listing.Words, bool) {
	w := listing.Words{"field", f.Name}
	if f.Kind == 0 {
		return append(w, "embed", f.Of), true
	}
	if len(f.Formula) > 0 {
		text, err := value.ExprText(f.Formula[0])
		return append(w, listing.Kinds()[f.Kind], "=", text), err == api.OK
	}
	w = w.Typed(f.Kind, f.Null, f.Default).When(len(f.Texts) > 0, "texts")
	for _, s := range f.Texts {
		w = append(w, value.Show(textOf(s)))
	}
	return w, true
}

// relationWords returns the words of the kinds of relations, by their numbers.
func relationWords() listing.Words {
	return listing.Words{api.RelOne: "one", api.RelMany: "many", api.RelPairs: "pairs"}
}

// deleteWords returns the words of OnDelete, by its numbers.
func deleteWords() listing.Words {
	return listing.Words{api.Refuse: "refuse", api.Cascade: "cascade", api.Clear: "clear"}
}

// relationLine returns the words of the line of a relation.
func relationLine(r api.Relation) listing.Words {
	return listing.Words{relationWords()[r.Kind], r.Name, r.To}.When(r.Back != "", r.Back).
		When(r.Kind == api.RelOne && r.Need, "need").When(r.Kind == api.RelOne, deleteWords()[r.OnDelete]).When(r.Cascade, "save")
}
