package schema_test

import (
	"slices"
	"strconv"
	"strings"
	"testing"

	"dumbwaiter/api"
	"dumbwaiter/schema"
)

// checked is the model whose faults are tried.
func checked(t *testing.T) api.Model {
	return read(t,
		"embed address", "field city text texts 'a'", "field zip int",
		"embed other", "field x int",
		"entity a version",
		"field n text default 'a' texts 'a' 'b'", "field h embed address", "field q int = length(:n)",
		"one up a clear", "many downs a up", "pairs ps b bs",
		"unique n up", "index h.city",
		"entity b", "field k int", "one x a refuse", "pairs bs a ps",
		"entity c of a", "field cc int", "field cd int = add(:cc,:h.zip)", "one cx b clear", "many inc b x", "unique cc", "unique cx",
		"entity d of a", "field dd int", "one dx b clear",
		"entity t tenant", "field z int", "one tt t clear", "pairs tp t",
	)
}

// model makes a fault of a model.
func model(spot string, want api.Errno, change func(m *api.Model)) fault[api.Model] {
	return fault[api.Model]{spot, change, want}
}

// P2.2, item 1
func embedFaults() []fault[api.Model] {
	field := func(i int, change func(f *api.Field)) func(m *api.Model) {
		return func(m *api.Model) { change(&m.Embeds[0].Fields[i]) }
	}
	formula := []api.Expr{{Kind: api.XValue, Value: integer(1)}}
	return []fault[api.Model]{
		model("embeds", api.ErrLarge, func(m *api.Model) {
			m.Embeds = append(m.Embeds, m.Embeds...)
			m.Embeds = append(m.Embeds, m.Embeds...)
			m.Embeds = append(m.Embeds, m.Embeds[0])
		}),
		model("e0", api.ErrName, func(m *api.Model) { m.Embeds[0].Name = "" }),
		model("e0", api.ErrName, func(m *api.Model) { m.Embeds[0].Name = "Address" }),
		model("e0 size", api.ErrLarge, func(m *api.Model) { m.Embeds[0].Fields = append(m.Embeds[0].Fields, make([]api.Field, 11)...) }),
		model("e0f0", api.ErrName, field(0, func(f *api.Field) { f.Name = "a_b" })),
		model("e0f0 kind", api.ErrKind, field(0, func(f *api.Field) { f.Kind = 5 })),
		model("e0f0 texts", api.ErrTwice, field(0, func(f *api.Field) { f.Texts = []string{"a", "a"} })),
		model("e0f1 kind", api.ErrName, field(1, func(f *api.Field) { f.Kind, f.Of, f.Formula = 0, "none", nil })),
		model("e0f1", api.ErrTwice, field(1, func(f *api.Field) { f.Name = "city" })),
		model("e0f1 kind", api.ErrKind, field(1, func(f *api.Field) { f.Kind, f.Of, f.Formula = 0, "address", nil })),
		model("e0f1 kind", api.ErrForm, field(1, func(f *api.Field) { f.Formula = formula })),
		model("e1", api.ErrTwice, func(m *api.Model) { m.Embeds[1].Name = "address" }),
		model("e1", api.ErrName, func(m *api.Model) { m.Embeds[1].Name = "1" }),
	}
}

// P2.2, item 2
func entityFaults() []fault[api.Model] {
	entity := func(i int, change func(e *api.Entity)) func(m *api.Model) {
		return func(m *api.Model) { change(&m.Entities[i]) }
	}
	return []fault[api.Model]{
		model("entities", api.ErrLarge, func(m *api.Model) {
			for i := range 12 {
				m.Entities = append(m.Entities, api.Entity{Name: "x" + strconv.Itoa(i)})
			}
		}),
		model("a", api.ErrName, entity(0, func(e *api.Entity) { e.Name = "2" })),
		model("a", api.ErrName, entity(0, func(e *api.Entity) { e.Parent = "a" })),
		model("a", api.ErrName, entity(0, func(e *api.Entity) { e.Parent = "b" })),
		model("a size", api.ErrLarge, entity(0, func(e *api.Entity) { e.Fields = append(e.Fields, make([]api.Field, 10)...) })),
		model("a size", api.ErrLarge, entity(0, func(e *api.Entity) { e.Relations = append(e.Relations, make([]api.Relation, 6)...) })),
		model("a size", api.ErrLarge, entity(0, func(e *api.Entity) { e.Uniques = make([][]string, 7) })),
		model("a size", api.ErrLarge, entity(0, func(e *api.Entity) { e.Indexes = make([][]string, 7) })),
		model("a field", api.ErrName, entity(0, func(e *api.Entity) { e.Fields[0].Name = "" })),
		model("a field", api.ErrTwice, entity(0, func(e *api.Entity) { e.Fields[0].Name = "id" })),
		model("a field", api.ErrTwice, entity(0, func(e *api.Entity) { e.Fields[0].Name = "type" })),
		model("a field", api.ErrTwice, entity(0, func(e *api.Entity) { e.Fields[0].Name = "version" })),
		model("a field", api.ErrTwice, entity(0, func(e *api.Entity) { e.Fields[0].Name = "gone" })),
		model("a field", api.ErrTwice, entity(0, func(e *api.Entity) { e.Fields[0].Name = "tenant" })),
		model("a embed", api.ErrName, entity(0, func(e *api.Entity) { e.Fields[1].Of = "none" })),
		model("a field", api.ErrTwice, entity(0, func(e *api.Entity) { e.Fields[1].Name = "n" })),
		model("a relation", api.ErrName, entity(0, func(e *api.Entity) { e.Relations[0].Name = "" })),
		model("a relation", api.ErrName, entity(0, func(e *api.Entity) { e.Relations[0].Name = "need" })),
		model("a relation", api.ErrName, entity(0, func(e *api.Entity) { e.Relations[0].Name = "refuse" })),
		model("a relation", api.ErrName, entity(0, func(e *api.Entity) { e.Relations[0].Name = "cascade" })),
		model("a relation", api.ErrName, entity(0, func(e *api.Entity) { e.Relations[0].Name = "clear" })),
		model("a relation", api.ErrName, entity(0, func(e *api.Entity) { e.Relations[0].Name = "save" })),
		model("a relation", api.ErrTwice, entity(0, func(e *api.Entity) { e.Relations[0].Name = "n" })),
		model("a relation", api.ErrTwice, entity(0, func(e *api.Entity) { e.Relations[0].Name = "gone" })),
		model("a relation 1", api.ErrTwice, entity(0, func(e *api.Entity) { e.Relations[1].Name = "up" })),
		model("b", api.ErrTwice, entity(1, func(e *api.Entity) { e.Name = "a" })),
		model("c", api.ErrName, entity(2, func(e *api.Entity) { e.Parent = "t" })),
		model("c", api.ErrName, entity(2, func(e *api.Entity) { e.Parent = "c" })),
		model("c", api.ErrForm, entity(2, func(e *api.Entity) { e.Apart = true })),
		model("c", api.ErrForm, entity(2, func(e *api.Entity) { e.Version = true })),
		model("c", api.ErrForm, entity(2, func(e *api.Entity) { e.Soft = true })),
		model("c", api.ErrForm, entity(2, func(e *api.Entity) { e.Tenant = true })),
		model("c size", api.ErrLarge, entity(2, func(e *api.Entity) { e.Uniques = make([][]string, 7) })),
		model("c field", api.ErrTwice, entity(2, func(e *api.Entity) { e.Fields[0].Name = "n" })),
		model("c field", api.ErrTwice, entity(2, func(e *api.Entity) { e.Fields[0].Name = "up" })),
		model("c relation", api.ErrTwice, entity(2, func(e *api.Entity) { e.Relations[0].Name = "h" })),
		model("c relation", api.ErrTwice, entity(2, func(e *api.Entity) { e.Relations[0].Name = "ps" })),
		// An entity beside it, below the same root.
		model("d field", api.ErrTwice, entity(3, func(e *api.Entity) { e.Fields[0].Name = "cc" })),
		model("d field", api.ErrTwice, entity(3, func(e *api.Entity) { e.Fields[0].Name = "cx" })),
		model("d relation", api.ErrTwice, entity(3, func(e *api.Entity) { e.Relations[0].Name = "cc" })),
		model("d relation", api.ErrTwice, entity(3, func(e *api.Entity) { e.Relations[0].Name = "cx" })),
		model("t relation", api.ErrName, entity(4, func(e *api.Entity) { e.Relations[0].Name = "x_y" })),
	}
}

// P2.2, item 3
func relationFaults() []fault[api.Model] {
	relation := func(i, k int, change func(r *api.Relation)) func(m *api.Model) {
		return func(m *api.Model) { change(&m.Entities[i].Relations[k]) }
	}
	return []fault[api.Model]{
		model("a0 kind", api.ErrKind, relation(0, 0, func(r *api.Relation) { r.Kind = 0 })),
		model("a0 kind", api.ErrKind, relation(0, 0, func(r *api.Relation) { r.Kind = 4 })),
		model("a0 kind", api.ErrKind, relation(0, 0, func(r *api.Relation) { r.Kind = -1 })),
		model("a0 back", api.ErrForm, relation(0, 0, func(r *api.Relation) { r.Back = "downs" })),
		model("a0 delete", api.ErrArg, relation(0, 0, func(r *api.Relation) { r.OnDelete = 0 })),
		model("a0 delete", api.ErrArg, relation(0, 0, func(r *api.Relation) { r.OnDelete = 4 })),
		model("a0 delete", api.ErrForm, relation(0, 0, func(r *api.Relation) { r.Need = true })),
		model("a0 to", api.ErrName, relation(0, 0, func(r *api.Relation) { r.To = "none" })),
		model("a0 to", api.ErrName, relation(0, 0, func(r *api.Relation) { r.To = "" })),
		model("a0 to", api.ErrTenant, relation(0, 0, func(r *api.Relation) { r.To = "t" })),
		model("a1 form", api.ErrForm, relation(0, 1, func(r *api.Relation) { r.Need = true })),
		model("a1 form", api.ErrForm, relation(0, 1, func(r *api.Relation) { r.OnDelete = api.Clear })),
		model("a1 back", api.ErrForm, relation(0, 1, func(r *api.Relation) { r.Back = "" })),
		model("a1 to", api.ErrName, relation(0, 1, func(r *api.Relation) { r.To = "none" })),
		model("a1 to", api.ErrName, relation(0, 1, func(r *api.Relation) { r.To = "b" })),
		model("a1 back", api.ErrName, relation(0, 1, func(r *api.Relation) { r.Back = "downs" })),
		model("a1 back", api.ErrName, relation(0, 1, func(r *api.Relation) { r.Back = "n" })),
		model("a2 form", api.ErrForm, relation(0, 2, func(r *api.Relation) { r.Need = true })),
		model("a2 form", api.ErrForm, relation(0, 2, func(r *api.Relation) { r.OnDelete = api.Refuse })),
		model("a2 to", api.ErrTenant, relation(0, 2, func(r *api.Relation) { r.To = "t" })),
		model("a2 back", api.ErrName, relation(0, 2, func(r *api.Relation) { r.Back = "x" })),
		model("a2 back", api.ErrName, relation(0, 2, func(r *api.Relation) { r.Back = "ps" })),
		model("b1 back", api.ErrType, relation(1, 1, func(r *api.Relation) { r.Back = "" })),
		model("c1 back", api.ErrType, relation(2, 1, func(r *api.Relation) { r.To, r.Back = "d", "dx" })),
	}
}

// P2.2, item 4
func insideFaults() []fault[api.Model] {
	entity := func(i int, change func(e *api.Entity)) func(m *api.Model) {
		return func(m *api.Model) { change(&m.Entities[i]) }
	}
	formula := func(e api.Expr) []api.Expr { return []api.Expr{e} }
	column := func(name string) api.Expr { return api.Expr{Kind: api.XColumn, Name: name} }
	return []fault[api.Model]{
		model("a unique", api.ErrForm, entity(0, func(e *api.Entity) { e.Uniques[0] = nil })),
		model("a unique", api.ErrForm, entity(0, func(e *api.Entity) { e.Uniques[0] = []string{"n", "n", "n", "n", "n", "n", "n", "n"} })),
		model("a unique", api.ErrTwice, entity(0, func(e *api.Entity) { e.Uniques[0] = []string{"n", "n", "n", "n", "n", "n", "n"} })),
		model("a unique", api.ErrName, entity(0, func(e *api.Entity) { e.Uniques[0] = []string{"n", "none", "n"} })),
		model("a unique", api.ErrTwice, entity(0, func(e *api.Entity) { e.Uniques[0] = []string{"n", "up", "n", "none"} })),
		model("a unique", api.ErrName, entity(0, func(e *api.Entity) { e.Uniques[0] = []string{"h"} })),
		model("a unique", api.ErrName, entity(0, func(e *api.Entity) { e.Uniques[0] = []string{"city"} })),
		model("a unique", api.ErrName, entity(0, func(e *api.Entity) { e.Uniques[0] = []string{"h_city"} })),
		model("a unique", api.ErrName, entity(0, func(e *api.Entity) { e.Uniques[0] = []string{"q"} })),
		model("a unique", api.ErrName, entity(0, func(e *api.Entity) { e.Uniques[0] = []string{"id"} })),
		model("a unique", api.ErrName, entity(0, func(e *api.Entity) { e.Uniques[0] = []string{"downs"} })),
		model("a unique", api.ErrName, entity(0, func(e *api.Entity) { e.Uniques[0] = []string{"ps"} })),
		model("a unique", api.ErrName, entity(0, func(e *api.Entity) { e.Uniques[0] = []string{"cc"} })),
		model("a index", api.ErrForm, entity(0, func(e *api.Entity) { e.Indexes[0] = []string{} })),
		model("a index", api.ErrName, entity(0, func(e *api.Entity) { e.Indexes[0] = []string{""} })),
		model("a index", api.ErrTwice, entity(0, func(e *api.Entity) { e.Indexes[0] = []string{"h.zip", "h.zip"} })),
		model("a formula", api.ErrName, entity(0, func(e *api.Entity) { e.Fields[2].Formula = formula(column("cc")) })),
		model("a formula", api.ErrName, entity(0, func(e *api.Entity) { e.Fields[2].Formula = formula(column("q")) })),
		model("a formula", api.ErrName, entity(0, func(e *api.Entity) { e.Fields[2].Formula = formula(column("up")) })),
		model("a formula", api.ErrName, entity(0, func(e *api.Entity) { e.Fields[2].Formula = formula(column("id")) })),
		model("a formula", api.ErrName, entity(0, func(e *api.Entity) { e.Fields[2].Formula = formula(column("h_city")) })),
		model("a formula", api.ErrName, entity(0, func(e *api.Entity) {
			e.Fields[2].Formula = formula(api.Expr{Kind: api.XColumn, Source: "a", Name: "n"})
		})),
		model("a formula", api.ErrArg, entity(0, func(e *api.Entity) { e.Fields[2].Formula = formula(api.Expr{Kind: api.XParam}) })),
		model("a formula", api.ErrKind, entity(0, func(e *api.Entity) { e.Fields[2].Formula = formula(api.Expr{Kind: api.XAgg}) })),
		model("a formula", api.ErrType, entity(0, func(e *api.Entity) { e.Fields[2].Formula = formula(column("n")) })),
		model("b index", api.ErrName, entity(1, func(e *api.Entity) { e.Indexes = [][]string{{"n"}} })),
		model("c unique", api.ErrName, entity(2, func(e *api.Entity) { e.Uniques[0] = []string{"n"} })),
		model("c unique", api.ErrName, entity(2, func(e *api.Entity) { e.Uniques[0] = []string{"up"} })),
	}
}

// P2.2
func TestCheckFaults(t *testing.T) {
	faults := slices.Concat(embedFaults(), entityFaults(), relationFaults(), insideFaults())
	tryFaults(t, checked(t), schema.Check, faults)
}

// P2.2: the errors of a field, of an entity and, apart from the last two faults, of an embedded value.
func TestCheckFields(t *testing.T) {
	field := func(spot string, want api.Errno, change func(f *api.Field)) fault[api.Field] {
		return fault[api.Field]{spot, change, want}
	}
	one := api.Expr{Kind: api.XValue, Value: text("a")}
	faults := []fault[api.Field]{
		field("name", api.ErrName, func(f *api.Field) { f.Name = "" }),
		field("name", api.ErrName, func(f *api.Field) { f.Name = long(13) }),
		field("kind", api.ErrKind, func(f *api.Field) { f.Kind = 5 }),
		field("kind", api.ErrKind, func(f *api.Field) { f.Kind = -1 }),
		field("kind", api.ErrForm, func(f *api.Field) { f.Kind = 0 }),
		field("kind", api.ErrForm, func(f *api.Field) { f.Kind, f.Default = api.Int, null }),
		field("of", api.ErrForm, func(f *api.Field) { f.Of = "other" }),
		field("formula", api.ErrForm, func(f *api.Field) { f.Formula = []api.Expr{one} }),
		field("formula", api.ErrForm, func(f *api.Field) { f.Formula = []api.Expr{one, one} }),
		field("texts", api.ErrLarge, func(f *api.Field) { f.Texts = strings.Split("a,b,c,d,e,f,g,h,a", ",") }),
		field("texts", api.ErrArg, func(f *api.Field) { f.Texts = []string{"a", "\n", "a", long(101)} }),
		field("texts", api.ErrLarge, func(f *api.Field) { f.Texts = []string{"a", long(101) + "\n", "a"} }),
		field("texts", api.ErrTwice, func(f *api.Field) { f.Texts = []string{"a", "b", "a", "\n"} }),
		field("default", api.ErrForm, func(f *api.Field) { f.Default = api.Value{N: 1} }),
		field("default", api.ErrType, func(f *api.Field) { f.Default = integer(1) }),
		field("default", api.ErrLarge, func(f *api.Field) { f.Default = text(long(101)) }),
		field("default", api.ErrArg, func(f *api.Field) { f.Default = text("x") }),
	}
	base := api.Field{Name: "n", Kind: api.Text, Default: text("a"), Texts: []string{"a", "b"}}
	inEntity := func(f api.Field) api.Errno {
		return schema.Check(api.Model{Embeds: []api.Embed{{Name: "other"}}, Entities: []api.Entity{{Name: "e", Fields: []api.Field{{Name: "m", Kind: api.Int}, f}}}})
	}
	inEmbed := func(f api.Field) api.Errno {
		return schema.Check(api.Model{Embeds: []api.Embed{{Name: "other", Fields: []api.Field{{Name: "m", Kind: api.Int}, f}}}})
	}
	twice := field("name", api.ErrTwice, func(f *api.Field) { f.Name = "m" })
	tryFaults(t, base, inEntity, append(faults, twice))
	tryFaults(t, base, inEmbed, append(faults, twice))
	embedded := api.Field{Name: "n", Of: "other"}
	tryFaults(t, embedded, inEntity, []fault[api.Field]{
		field("name", api.ErrName, func(f *api.Field) { f.Name = "A" }),
		field("null", api.ErrForm, func(f *api.Field) { f.Null = true }),
		field("default", api.ErrForm, func(f *api.Field) { f.Default = integer(1) }),
		field("default", api.ErrForm, func(f *api.Field) { f.Default.S = "a" }),
		field("texts", api.ErrForm, func(f *api.Field) { f.Texts = []string{"a"} }),
		field("formula", api.ErrForm, func(f *api.Field) { f.Formula = []api.Expr{one} }),
		field("of", api.ErrName, func(f *api.Field) { f.Of = "" }),
		field("of", api.ErrName, func(f *api.Field) { f.Of = "oth" }),
		field("name", api.ErrTwice, func(f *api.Field) { f.Name = "m" }),
	})
	computed := api.Field{Name: "n", Kind: api.Text, Formula: []api.Expr{one}}
	tryFaults(t, computed, inEntity, []fault[api.Field]{
		field("null", api.ErrForm, func(f *api.Field) { f.Null = true }),
		field("default", api.ErrForm, func(f *api.Field) { f.Default = text("a") }),
		field("texts", api.ErrForm, func(f *api.Field) { f.Texts = []string{"a"} }),
		field("formula", api.ErrForm, func(f *api.Field) { f.Formula = []api.Expr{one, one} }),
		field("of", api.ErrForm, func(f *api.Field) { f.Of = "other" }),
		field("kind", api.ErrType, func(f *api.Field) { f.Kind = api.Int }),
	})
}

// P2.1
func TestNames(t *testing.T) {
	for _, x := range []struct {
		name        string
		named, tall bool
	}{
		{"a", true, true}, {"z9", true, true}, {long(12), true, true}, {long(13), false, true}, {long(40), false, true}, {long(41), false, false}, {"x" + long(12)[1:11] + "0", true, true},
		{"", false, false}, {"9", false, false}, {"_", false, false}, {"a_", false, true}, {"a_b", false, true}, {"_a", false, false}, {"A", false, false}, {"aB", false, false}, {"a b", false, false}, {"a.b", false, false}, {"a-b", false, false}, {"é", false, false}, {"aé", false, false}, {"a\x00", false, false}, {"a\n", false, false}, {"`", false, false}, {"a{", false, false}, {"a/", false, false}, {"a:", false, false},
		{"need", true, true}, {"id", true, true},
	} {
		err := schema.Check(api.Model{Entities: []api.Entity{{Name: x.name}}})
		if x.named != (err == api.OK) || !x.named && err != api.ErrName {
			t.Errorf("name %q: %d", x.name, err)
		}
		err = schema.CheckSchema(api.Schema{Tables: []api.Table{{Name: x.name, Columns: []api.Column{{Name: x.name, Kind: api.Int}}, Key: []string{x.name}}}})
		if x.tall != (err == api.OK) || !x.tall && err != api.ErrName {
			t.Errorf("tall name %q: %d", x.name, err)
		}
	}
}

// P2.2: models at the limits are right.
func TestCheckAtLimits(t *testing.T) {
	var m api.Model
	for i := range 8 {
		e := api.Embed{Name: "em" + strconv.Itoa(i)}
		for k := range 12 {
			e.Fields = append(e.Fields, api.Field{Name: "f" + strconv.Itoa(k), Kind: api.Text, Texts: strings.Split("a,b,c,d,e,f,g,"+long(100), ",")})
		}
		m.Embeds = append(m.Embeds, e)
	}
	for i := range 16 {
		e := api.Entity{Name: "e" + strconv.Itoa(i)}
		for k := range 12 {
			e.Fields = append(e.Fields, api.Field{Name: "f" + strconv.Itoa(k), Kind: api.Int})
		}
		for k := range 8 {
			e.Relations = append(e.Relations, api.Relation{Name: "r" + strconv.Itoa(k), Kind: api.RelOne, To: "e0", OnDelete: api.Refuse})
		}
		for k := range 6 {
			list := []string{"f" + strconv.Itoa(k), "f6", "f7", "f8", "f9", "f10", "r0"}
			e.Uniques, e.Indexes = append(e.Uniques, list), append(e.Indexes, list)
		}
		m.Entities = append(m.Entities, e)
	}
	m.Entities[0].Tenant = false
	if err := schema.Check(m); err != api.OK {
		t.Error(err)
	}
	for i := range m.Entities {
		m.Entities[i].Tenant = true
	}
	s, err := schema.Tables(m)
	if err != api.OK || schema.CheckSchema(s) != api.OK || len(s.Tables[0].Indexes[0].Columns) != api.MaxKeys {
		t.Error(err)
	}
}

// pairsModel has so many tables.
func pairsModel(tables int) api.Model {
	var m api.Model
	for i := range 8 {
		e := api.Entity{Name: "e" + strconv.Itoa(i)}
		for k := range 8 {
			if tables > 8 {
				tables--
				e.Relations = append(e.Relations, api.Relation{Name: "r" + strconv.Itoa(k), Kind: api.RelPairs, To: "e0"})
			}
		}
		m.Entities = append(m.Entities, e)
	}
	return m
}

// familyModel has a table with so many columns of fields, foreign keys, and indexes of either kind.
func familyModel(apart bool, columns, foreigns, uniques, indexes int) api.Model {
	m := api.Model{Entities: []api.Entity{{Name: "e", Apart: apart}}}
	next := func(count *int, most int, add func(e *api.Entity, name string)) {
		for i := 0; *count > 0; i++ {
			if i == len(m.Entities) {
				m.Entities = append(m.Entities, api.Entity{Name: "e" + strconv.Itoa(i), Parent: "e"})
			}
			for k := 0; k < most && *count > 0; k++ {
				*count--
				add(&m.Entities[i], strconv.Itoa(i)+"x"+strconv.Itoa(k))
			}
		}
	}
	next(&columns, 12, func(e *api.Entity, name string) {
		e.Fields = append(e.Fields, api.Field{Name: "f" + name, Kind: api.Int})
	})
	next(&foreigns, 8, func(e *api.Entity, name string) {
		e.Relations = append(e.Relations, api.Relation{Name: "r" + name, Kind: api.RelOne, To: "e", OnDelete: api.Clear})
	})
	next(&uniques, 6, func(e *api.Entity, name string) { e.Uniques = append(e.Uniques, []string{e.Fields[0].Name}) })
	next(&indexes, 6, func(e *api.Entity, name string) { e.Indexes = append(e.Indexes, []string{e.Fields[0].Name}) })
	return m
}

// P2.2, item 5
func TestCheckSizes(t *testing.T) {
	for _, x := range []struct {
		m    api.Model
		want api.Errno
	}{
		{pairsModel(60), api.OK}, {pairsModel(61), api.ErrLarge},
		{familyModel(false, 58, 0, 0, 0), api.OK}, {familyModel(false, 59, 0, 0, 0), api.ErrLarge}, {familyModel(true, 59, 0, 0, 0), api.OK}, {familyModel(true, 100, 0, 0, 0), api.OK},
		{familyModel(false, 38, 20, 0, 0), api.OK}, {familyModel(false, 39, 20, 0, 0), api.ErrLarge}, {familyModel(false, 30, 21, 0, 0), api.ErrLarge}, {familyModel(true, 30, 21, 0, 0), api.OK},
		{familyModel(false, 48, 0, 20, 0), api.OK}, {familyModel(false, 48, 0, 21, 0), api.ErrLarge}, {familyModel(false, 48, 0, 0, 21), api.ErrLarge}, {familyModel(false, 48, 0, 10, 10), api.OK}, {familyModel(false, 48, 0, 10, 11), api.ErrLarge}, {familyModel(true, 48, 0, 20, 20), api.OK},
	} {
		s, tablesErr := schema.Tables(x.m)
		if err := schema.Check(x.m); err != x.want || tablesErr != x.want || schema.CheckSchema(s) != api.OK {
			t.Error(x.m, x.want, err, tablesErr)
		}
	}
	// The embedded fields count, too.
	l := []string{"embed e"}
	for i := range 12 {
		l = append(l, "field f"+strconv.Itoa(i)+" int")
	}
	l = append(l, "entity a", "field a embed e", "field b embed e", "field c embed e", "field d embed e")
	if _, err := schema.Read(lines(append(l, "field e embed e")...)); err != api.ErrLarge {
		t.Error(err)
	}
	if _, err := schema.Read(lines(l...)); err != api.OK {
		t.Error(err)
	}
}

// P2.2: what is right, though it looks odd.
func TestCheckRight(t *testing.T) {
	for _, l := range [][]string{
		{}, {"embed a"}, {"entity a"}, {"embed a", "entity a", "field x embed a"},
		// Names of the lines and of columns are names.
		{"entity need", "field need int", "field refuse int", "one x need refuse", "unique need refuse"}, {"embed id", "field id int", "field type int", "entity id", "field x embed id", "unique x.id x.type"}, {"entity of", "entity b of of", "entity apart of b"},
		// A RelMany can stand at an entity below the one to which the RelOne refers, and refer to one below that with the RelOne.
		{"entity a", "entity b of a", "many x d y", "entity c", "one y a clear", "entity d of c"},
		// Two of the same RelMany, and pairs both ways, with itself, with themselves.
		{"entity a", "one x a clear", "many y a x", "many z a x"}, {"entity a", "pairs x b y", "entity b", "pairs y a x"}, {"entity a", "pairs x a x"}, {"entity a", "pairs x a y", "pairs y a x"}, {"entity a", "pairs x b", "entity b", "pairs x a"},
		// With a tenant one can refer to what has none.
		{"entity a tenant", "one x b refuse", "pairs y b", "entity b"}, {"entity a", "many x b y", "entity b tenant", "one y a refuse"}, {"entity b tenant", "pairs y c", "entity c of b", "one y2 c clear"},
		// Names of other families, and names that agree in tables only.
		{"entity a", "field x int", "entity b", "field x int"}, {"embed e", "field y int", "entity a", "field x embed e", "field xy int", "one y a clear"},
		// A formula of null is of every kind, one of an entity below sees the fields above.
		{"entity a", "field x int", "field y bool = null", "field z int = null", "entity b of a", "field w int = :x"},
		{"entity a", "field x int", "field y int", "unique x y", "unique x y", "unique y x", "index x y"},
	} {
		if _, err := schema.Read(lines(l...)); err != api.OK {
			t.Error(l, err)
		}
	}
}
