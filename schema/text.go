package schema

import (
	"dumbwaiter/api"
	"dumbwaiter/value"
)

// Text writes a model.
func Text(m api.Model) (string, api.Errno) {
	if err := Check(m); err != api.OK {
		return "", err
	}
	return modelText(m)
}

// modelText returns the text of a model that consists of the parts that texts have. Its only error is ErrLarge.
func modelText(m api.Model) (string, api.Errno) {
	var l listing
	for _, e := range m.Embeds {
		l.line("embed", e.Name)
		if !l.fields(e.Fields) {
			return "", api.ErrLarge
		}
	}
	for _, e := range m.Entities {
		l.line(headWords(e)...)
		if !l.fields(e.Fields) {
			return "", api.ErrLarge
		}
		for _, r := range e.Relations {
			l.line(relationLine(r)...)
		}
		for _, list := range e.Uniques {
			l.line(append(words{"unique"}, list...)...)
		}
		for _, list := range e.Indexes {
			l.line(append(words{"index"}, list...)...)
		}
	}
	return l.text()
}

// headWords returns the words of the first line of an entity.
func headWords(e api.Entity) words {
	return words{"entity", e.Name}.when(e.Parent != "", "of", e.Parent).
		when(e.Apart, "apart").when(e.Version, "version").when(e.Soft, "soft").when(e.Tenant, "tenant")
}

// fields writes fields, unless a Formula has no text because that would be too long.
func (l *listing) fields(fields []api.Field) bool {
	for _, f := range fields {
		w, ok := fieldWords(f)
		if !ok {
			return false
		}
		l.line(w...)
	}
	return true
}

// fieldWords returns the words of the line of a field.
func fieldWords(f api.Field) (words, bool) {
	w := words{"field", f.Name}
	if f.Kind == 0 {
		return append(w, "embed", f.Of), true
	}
	if len(f.Formula) > 0 {
		text, err := value.ExprText(f.Formula[0])
		return append(w, kindWords()[f.Kind], "=", text), err == api.OK
	}
	w = w.typed(f.Kind, f.Null, f.Default).when(len(f.Texts) > 0, "texts")
	for _, s := range f.Texts {
		w = append(w, value.Show(textOf(s)))
	}
	return w, true
}

// relationWords returns the words of the kinds of relations, by their numbers.
func relationWords() words {
	return words{api.RelOne: "one", api.RelMany: "many", api.RelPairs: "pairs"}
}

// deleteWords returns the words of OnDelete, by its numbers.
func deleteWords() words {
	return words{api.Refuse: "refuse", api.Cascade: "cascade", api.Clear: "clear"}
}

// relationLine returns the words of the line of a relation.
func relationLine(r api.Relation) words {
	return words{relationWords()[r.Kind], r.Name, r.To}.when(r.Back != "", r.Back).
		when(r.Kind == api.RelOne && r.Need, "need").when(r.Kind == api.RelOne, deleteWords()[r.OnDelete]).when(r.Cascade, "save")
}
