package clone_test

import (
	"reflect"
	"testing"

	"dumbwaiter/api"
	"dumbwaiter/clone"
)

// full is a change in which each list has an element.
func full() api.Change {
	table := api.Table{
		Name:     "t",
		Columns:  []api.Column{{Name: "a", Kind: api.Int}},
		Key:      []string{"a"},
		Foreigns: []api.Foreign{{Name: "f", Columns: []string{"a"}, Table: "t"}},
		Indexes:  []api.Index{{Name: "i", Columns: []string{"a"}, Unique: true}},
	}
	return api.Change{Kind: api.ChCreate, Table: "t", Index: api.Index{Columns: []string{"x"}}, Foreign: api.Foreign{Columns: []string{"y"}}, New: table, Columns: []string{"z"}}
}

// data is data with a row.
func data() api.Data {
	return api.Data{Tables: []api.TableRows{{Table: "t", Rows: [][]api.Value{{{Kind: api.Int, N: 1}}}}}}
}

// wipe overwrites all elements of lists within a value.
func wipe(v reflect.Value) {
	switch v.Kind() {
	case reflect.Slice:
		for i := range v.Len() {
			wipe(v.Index(i))
			v.Index(i).SetZero()
		}
	case reflect.Struct:
		for i := range v.NumField() {
			wipe(v.Field(i))
		}
	}
}

// tryCopy checks that a copy is equal to what it is of, and stays so when that is overwritten.
func tryCopy[T any](t *testing.T, made func() T, copied func(x T) T) {
	t.Helper()
	x := made()
	c := copied(x)
	wipe(reflect.ValueOf(&x).Elem())
	if !reflect.DeepEqual(c, made()) {
		t.Error(c, made())
	}
}

// Z2: a copy shares no memory with what it is of.
func TestCopies(t *testing.T) {
	tryCopy(t, full, clone.Change)
	tryCopy(t, func() []api.Change { return []api.Change{full(), full()} }, clone.Changes)
	tryCopy(t, func() api.Schema { return api.Schema{Tables: []api.Table{full().New}} }, clone.Schema)
	tryCopy(t, data, clone.Data)
}

// model is a model in which each list has an element; world is such a world.
func model() api.Model {
	e := api.Expr{Kind: api.XOp, Args: []api.Expr{{Kind: api.XColumn, Args: []api.Expr{{N: 1}}}}}
	f := api.Field{Name: "f", Texts: []string{"a"}, Formula: []api.Expr{e}}
	return api.Model{
		Embeds:   []api.Embed{{Name: "e", Fields: []api.Field{f}}},
		Entities: []api.Entity{{Name: "x", Fields: []api.Field{f}, Relations: []api.Relation{{Name: "r"}}, Uniques: [][]string{{"u"}}, Indexes: [][]string{{"i"}}}},
	}
}

func world() api.World {
	return api.World{Objects: []api.Object{{Entity: "x", ID: 1, Values: []api.Value{{Kind: api.Int, N: 1}}, Ones: []int{1}}}, Pairs: []api.PairOf{{Left: 1}}}
}

// Z2: copies of models and worlds.
func TestModels(t *testing.T) {
	tryCopy(t, model, clone.Model)
	tryCopy(t, world, clone.World)
	tryCopy(t, func() api.Object { return world().Objects[0] }, clone.Object)
	tryCopy(t, func() []api.Expr { return model().Embeds[0].Fields[0].Formula }, clone.Exprs)
}
