package schema

import (
	"dumbwaiter/api"
	"dumbwaiter/listing"
	"dumbwaiter/value"
)

// Read returns the model with a text.
func Read(s string) (api.Model, api.Errno) { return listing.Read(s, readModel, modelText, Check) }

// readModel returns the only model that can have a text; it need not have it. All of its parts are such that they have texts.
func readModel(s string) (api.Model, bool) {
	lines, ok := listing.Lines(s)
	var m api.Model
	for _, w := range lines {
		ok = ok && readLine(&m, w)
	}
	return m, ok
}

// readLine adds what a line says to a model.
func readLine(m *api.Model, w listing.Words) bool {
	switch w[0] {
	case "embed":
		m.Embeds = append(m.Embeds, api.Embed{})
		return readEmbed(&m.Embeds[len(m.Embeds)-1], w)
	case "entity":
		m.Entities = append(m.Entities, api.Entity{})
		return readHead(&m.Entities[len(m.Entities)-1], w)
	}
	if len(m.Entities) > 0 {
		return readMember(&m.Entities[len(m.Entities)-1], w)
	}
	if len(m.Embeds) > 0 && w[0] == "field" {
		return readField(&m.Embeds[len(m.Embeds)-1].Fields, w)
	}
	return false
}

// readEmbed reads the first line of an embedded value.
func readEmbed(e *api.Embed, w listing.Words) bool {
	if len(w) != 2 || !isWord(w[1]) {
		return false
	}
	e.Name = w[1]
	return true
}

// readHead reads the first line of an entity.
func readHead(e *api.Entity, w listing.Words) bool {
	if !w.All(2, isWord) {
		return false
	}
	e.Name = w[1]
	w = w[2:]
	if len(w) > 1 && w[0] == "of" {
		e.Parent = w[1]
		w = w[2:]
	}
	for _, word := range w {
		switch word {
		case "apart":
			e.Apart = true
		case "version":
			e.Version = true
		case "soft":
			e.Soft = true
		case "tenant":
			e.Tenant = true
		default:
			return false
		}
	}
	return true
}

// readMember reads another line of an entity.
func readMember(e *api.Entity, w listing.Words) bool {
	switch w[0] {
	case "field":
		return readField(&e.Fields, w)
	case "unique":
		e.Uniques = append(e.Uniques, w[1:])
		return w[1:].All(0, isElement)
	case "index":
		e.Indexes = append(e.Indexes, w[1:])
		return w[1:].All(0, isElement)
	}
	r, ok := readRelation(w)
	e.Relations = append(e.Relations, r)
	return ok
}

// readField reads the line of a field.
func readField(fields *[]api.Field, w listing.Words) bool {
	if len(w) < 3 || !isWord(w[1]) {
		return false
	}
	f := api.Field{Name: w[1]}
	ok := false
	switch rest := w[3:]; {
	case w[2] == "embed":
		ok = len(rest) == 1 && isWord(rest[0])
		f.Of = w[len(w)-1]
	case len(rest) == 2 && rest[0] == "=":
		formula, err := value.ExprRead(rest[1])
		f.Kind = listing.Kinds().NumberOf(w[2])
		f.Formula = []api.Expr{formula}
		ok = err == api.OK && isKind(f.Kind)
	default:
		t, right := listing.ReadTraits(rest)
		f.Kind = listing.Kinds().NumberOf(w[2])
		f.Null, f.Default, f.Texts = t.Null, t.Default, t.Texts
		ok = right && isKind(f.Kind)
	}
	*fields = append(*fields, f)
	return ok
}

// readRelation reads the line of a relation.
func readRelation(w listing.Words) (api.Relation, bool) {
	if !w.All(3, isWord) || isOption(w[1]) {
		return api.Relation{}, false
	}
	r := api.Relation{Kind: relationWords().NumberOf(w[0]), Name: w[1], To: w[2]}
	for _, word := range w[3:] {
		switch {
		case word == "need":
			r.Need = true
		case word == "save":
			r.Cascade = true
		case isOption(word):
			r.OnDelete = deleteWords().NumberOf(word)
		default:
			r.Back = word
		}
	}
	return r, r.Kind != 0 && (r.Kind != api.RelOne || r.OnDelete != 0)
}
