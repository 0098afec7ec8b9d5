package layout_test

import (
	"reflect"
	"testing"

	"dumbwaiter/api"
	"dumbwaiter/layout"
	"dumbwaiter/schema"
)

func integer(n int) api.Value { return api.Value{Kind: api.Int, N: n} }

func text(s string) api.Value { return api.Value{Kind: api.Text, S: s} }

// zoo is a model with a family in one table, one that is apart, and pairs of each kind.
func zoo(t *testing.T) api.Model {
	t.Helper()
	m, err := schema.Read("embed place\nfield city text null\n" +
		"entity man version soft\nfield name text default 'x' texts 'x' 'y'\nfield home embed place\none boss man clear\npairs likes man likes\npairs keeps pet owners\n" +
		"entity worker of man\nfield pay int default 7\none help worker clear\n" +
		"entity pet apart\nfield name text null\none owner man clear\npairs owners man keeps\n" +
		"entity dog of pet\nfield good bool default true\none rival pet clear\n" +
		"entity note tenant\nfield body text null\npairs about man\npairs near note\n")
	if err != api.OK {
		t.Fatal(err)
	}
	return m
}

// world is a world of the zoo.
func world() api.World {
	gone := api.Value{Kind: api.Moment, N: 5}
	return api.World{
		Objects: []api.Object{
			{Entity: "man", ID: 1, Version: 2, Values: []api.Value{text("x"), text("a")}, Ones: []int{2}},
			{Entity: "worker", ID: 2, Version: 1, Gone: gone, Values: []api.Value{text("y"), {}, integer(3)}, Ones: []int{0, 2}},
			{Entity: "dog", ID: 1, Values: []api.Value{text("rex"), {Kind: api.Bool, N: 1}}, Ones: []int{1, 3}},
			{Entity: "pet", ID: 3, Values: []api.Value{{}}, Ones: []int{0}},
			{Entity: "note", Tenant: 1, ID: 1, Values: []api.Value{text("n")}},
			{Entity: "note", Tenant: 4, ID: 1, Values: []api.Value{{}}},
		},
		Pairs: []api.PairOf{
			{Entity: "man", Relation: "keeps", Left: 1, Right: 3}, {Entity: "man", Relation: "likes", Left: 1, Right: 2},
			{Entity: "note", Relation: "about", Tenant: 1, Left: 1, Right: 2}, {Entity: "note", Relation: "near", Tenant: 4, Left: 1, Right: 1},
		},
	}
}

// layoutOf returns the layout of a model.
func layoutOf(t *testing.T, m api.Model) (*layout.Layout, api.Schema) {
	t.Helper()
	s, err := schema.Tables(m)
	if err != api.OK {
		t.Fatal(err)
	}
	return layout.Of(m, s), s
}

// P2.15: the rows of a world tell it.
func TestWorld(t *testing.T) {
	m := zoo(t)
	l, _ := layoutOf(t, m)
	for range 2 { // entities are known from the first time
		d, err := schema.Rows(m, world())
		if err != api.OK {
			t.Fatal(err)
		}
		if w := l.World(d); !reflect.DeepEqual(w, world()) {
			t.Error(w)
		}
	}
}

// Rows that are more than a world has are told all the same, and rows that tell no object are passed over.
func TestMore(t *testing.T) {
	m := zoo(t)
	l, s := layoutOf(t, m)
	var d api.Data
	for _, x := range s.Tables {
		d.Tables = append(d.Tables, api.TableRows{Table: x.Name})
		if x.Name == "note" || x.Name == "pet" {
			for n := range 3000 {
				row := []api.Value{integer(1 + n), text("pet"), {}, {}}
				if x.Name == "note" {
					row = []api.Value{integer(2), integer(1 + n), text("b")}
				}
				d.Tables[len(d.Tables)-1].Rows = append(d.Tables[len(d.Tables)-1].Rows, row)
			}
		}
	}
	if w := l.World(d); len(w.Objects) != 6000 || w.Objects[3000].Entity != "note" || w.Objects[5999].ID != 3000 {
		t.Error(len(w.Objects))
	}
	for i, row := range [][]api.Value{{integer(1), text("dog"), {}, {}}, {integer(1), text("note"), {}, {}}, {integer(1), text(""), {}, {}}, {integer(1), text("pet"), {}, integer(0)}} {
		for k := range d.Tables {
			d.Tables[k].Rows = nil
			if d.Tables[k].Table == "pet" {
				d.Tables[k].Rows = [][]api.Value{row}
			}
		}
		if w := l.World(d); len(w.Objects) != 0 {
			t.Error(i, w)
		}
	}
}

// An object is read by its rows alone; it is none if one of them is missing.
func TestObject(t *testing.T) {
	m := zoo(t)
	l, s := layoutOf(t, m)
	d, _ := schema.Rows(m, world())
	for _, without := range []string{"", "pet", "dog"} {
		asked := 0
		o, there := l.Object("pet", func(table int) ([]api.Value, bool) {
			asked++
			return d.Tables[table].Rows[0], s.Tables[table].Name != without
		})
		if there != (without == "") || there && !reflect.DeepEqual(o, world().Objects[2]) || !there && !reflect.DeepEqual(o, api.Object{}) {
			t.Error(without, o, there)
		}
		if (asked == 1) != (without == "pet") {
			t.Error(without, asked)
		}
	}
}

// P2.5: a slot of an embedded value is a field of it.
func TestField(t *testing.T) {
	m := zoo(t)
	slots, _ := schema.Slots(m, "worker")
	for i, want := range []api.Field{m.Entities[0].Fields[0], m.Embeds[0].Fields[0], m.Entities[1].Fields[0]} {
		if f := layout.Field(m, slots[i]); !reflect.DeepEqual(f, want) {
			t.Error(slots[i], f)
		}
	}
}
