package schema_test

import (
	"slices"
	"testing"

	"dumbwaiter/api"
	"dumbwaiter/schema"
)

// P2.4
func TestRootAndFamily(t *testing.T) {
	m := zoo(t)
	for _, x := range []struct {
		entity, root string
		family       []string
	}{
		{"person", "person", []string{"person", "worker"}}, {"worker", "person", []string{"worker"}},
		{"pet", "pet", []string{"pet", "dog", "cat", "puppy"}}, {"dog", "pet", []string{"dog", "puppy"}}, {"cat", "pet", []string{"cat"}}, {"puppy", "pet", []string{"puppy"}},
		{"tag", "tag", []string{"tag"}},
	} {
		if root, err := schema.Root(m, x.entity); err != api.OK || root != x.root {
			t.Error(x, root, err)
		}
		if family, err := schema.Family(m, x.entity); err != api.OK || !slices.Equal(family, x.family) {
			t.Error(x, family, err)
		}
	}
}

// P2.5
func TestSlots(t *testing.T) {
	m := zoo(t)
	person := []api.Slot{
		{Name: "name", Entity: "person", Kind: api.Text}, {Name: "state", Entity: "person", Kind: api.Text},
		{Name: "home.city", Entity: "person", Kind: api.Text}, {Name: "home.zip", Entity: "person", Kind: api.Int, Null: true},
	}
	mate := api.Slot{Name: "mate", Entity: "person", To: "person", Null: true}
	pet := api.Slot{Name: "name", Entity: "pet", Kind: api.Text, Null: true}
	dog := []api.Slot{pet, {Name: "good", Entity: "dog", Kind: api.Bool}, {Name: "nick", Entity: "dog", Kind: api.Text, Null: true}}
	owner, rival := api.Slot{Name: "owner", Entity: "pet", To: "person", Null: true}, api.Slot{Name: "rival", Entity: "dog", To: "pet", Null: true}
	for _, x := range []struct {
		entity string
		want   []api.Slot
	}{
		{"person", append(slices.Clone(person), mate)},
		{"worker", append(slices.Clone(person), api.Slot{Name: "pay", Entity: "worker", Kind: api.Int}, api.Slot{Name: "since", Entity: "worker", Kind: api.Moment, Null: true}, mate, api.Slot{Name: "boss", Entity: "worker", To: "worker"})},
		{"pet", []api.Slot{pet, owner}},
		{"dog", append(slices.Clone(dog), owner, rival)},
		{"puppy", append(slices.Clone(dog), api.Slot{Name: "weeks", Entity: "puppy", Kind: api.Int, Null: true}, owner, rival)},
		{"cat", []api.Slot{pet, {Name: "lives", Entity: "cat", Kind: api.Int}, owner, {Name: "fears", Entity: "cat", To: "dog", Null: true}}},
		{"tag", []api.Slot{{Name: "name", Entity: "tag", Kind: api.Text, Null: true}}},
	} {
		if got, err := schema.Slots(m, x.entity); err != api.OK || !slices.Equal(got, x.want) {
			t.Error(x.entity, got, err)
		}
	}
}

// P2.6
func TestFormulasAndRelations(t *testing.T) {
	m := zoo(t)
	tall := api.Item{Name: "tall", Expr: m.Entities[0].Fields[3].Formula[0]}
	sum := api.Item{Name: "sum", Expr: m.Entities[1].Fields[2].Formula[0]}
	for _, x := range []struct {
		entity    string
		formulas  []api.Item
		relations []string
	}{
		{"person", []api.Item{tall}, []string{"mate", "pets", "tags"}}, {"worker", []api.Item{tall, sum}, []string{"mate", "pets", "tags", "boss", "staff"}},
		{"puppy", nil, []string{"owner", "friends", "rival", "hunts"}}, {"cat", nil, []string{"owner", "friends", "fears", "prey"}}, {"tag", nil, []string{"over", "people", "under"}},
	} {
		if got, err := schema.Formulas(m, x.entity); err != api.OK || !same(got, x.formulas) {
			t.Error(x.entity, got, err)
		}
		got, err := schema.Relations(m, x.entity)
		var names []string
		for _, r := range got {
			names = append(names, r.Name)
		}
		if err != api.OK || !slices.Equal(names, x.relations) {
			t.Error(x.entity, names, err)
		}
	}
	if got, _ := schema.Relations(m, "worker"); !slices.Equal(got, append(slices.Clone(m.Entities[0].Relations), m.Entities[1].Relations...)) {
		t.Error(got)
	}
}

// P2.7
func TestOwner(t *testing.T) {
	m := zoo(t)
	for _, x := range []struct{ entity, relation, owner, name string }{
		{"person", "tags", "person", "tags"}, {"tag", "people", "person", "tags"}, {"pet", "friends", "pet", "friends"}, {"cat", "prey", "cat", "prey"},
		{"tag", "over", "tag", "over"}, {"tag", "under", "tag", "over"},
	} {
		if owner, name, err := schema.Owner(m, x.entity, x.relation); err != api.OK || owner != x.owner || name != x.name {
			t.Error(x, owner, name, err)
		}
	}
	for _, x := range [][2]string{{"tag", "tags"}, {"worker", "tags"}, {"dog", "friends"}, {"person", "pets"}, {"person", "mate"}, {"person", "name"}, {"person", ""}} {
		if owner, name, err := schema.Owner(m, x[0], x[1]); err != api.ErrName || owner != "" || name != "" {
			t.Error(x, owner, name, err)
		}
	}
	// Which one stands first counts, not which name is less.
	m = read(t, "entity z", "pairs y a x", "pairs s z r", "pairs r z s", "entity a", "pairs x z y", "pairs y z")
	for _, x := range []struct{ entity, relation, owner, name string }{{"z", "y", "z", "y"}, {"a", "x", "z", "y"}, {"z", "r", "z", "s"}, {"z", "s", "z", "s"}, {"a", "y", "a", "y"}} {
		if owner, name, err := schema.Owner(m, x.entity, x.relation); err != api.OK || owner != x.owner || name != x.name {
			t.Error(x, owner, name, err)
		}
	}
}

// withEntity calls all functions with an entity, and returns their errors. Other results must be zero then.
func withEntity(t *testing.T, m api.Model, entity string) []api.Errno {
	t.Helper()
	root, err1 := schema.Root(m, entity)
	family, err2 := schema.Family(m, entity)
	slots, err3 := schema.Slots(m, entity)
	formulas, err4 := schema.Formulas(m, entity)
	relations, err5 := schema.Relations(m, entity)
	owner, name, err6 := schema.Owner(m, entity, "none")
	table, column, err7 := schema.Column(m, entity, "none")
	l := []api.Errno{err1, err2, err3, err4, err5, err6, err7}
	if !slices.Contains(l, api.OK) && (root != "" || len(family)+len(slots)+len(formulas)+len(relations) > 0 || owner != "" || name != "" || table != "" || column != "") {
		t.Error("results beside errors", entity)
	}
	return l
}

// P2.4 to P2.7, P2.9: the error of Check comes ahead of ErrName.
func TestEntityErrors(t *testing.T) {
	m := zoo(t)
	wrong := clone(m)
	wrong.Entities[2].Fields[0].Kind = 9
	for _, entity := range []string{"", "none", "Person", "address", "pets", "tag_over"} {
		if l := withEntity(t, m, entity); slices.ContainsFunc(l, func(e api.Errno) bool { return e != api.ErrName }) {
			t.Error(entity, l)
		}
	}
	for _, entity := range []string{"", "none", "person", "pet"} {
		if l := withEntity(t, wrong, entity); slices.ContainsFunc(l, func(e api.Errno) bool { return e != api.ErrKind }) {
			t.Error(entity, l)
		}
	}
	if l := withEntity(t, m, "person"); !slices.Equal(l, []api.Errno{0, 0, 0, 0, 0, api.ErrName, api.ErrName}) {
		t.Error(l)
	}
}
