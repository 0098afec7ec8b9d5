package migrate_test

import (
	"slices"
	"testing"

	"dumbwaiter/api"
	"dumbwaiter/migrate"
)

// P6.7: what is told as lost.
func TestLost(t *testing.T) {
	table := func(name string) api.Loss { return api.Loss{Kind: api.LostTable, Table: name} }
	column := func(kind int, table, name string) api.Loss { return api.Loss{Kind: kind, Table: table, Column: name} }
	for _, x := range []struct {
		l    []string
		want []api.Loss
	}{
		{nil, nil},
		{[]string{"drop item", "rename shelf board", "drop board", "drop box"}, []api.Loss{table("box"), table("item"), table("shelf")}},
		{[]string{"remove item spare", "tight item box 3", "cast item n bool", "tight item n true", "remove shelf note"}, []api.Loss{column(api.LostNull, "item", "box"), column(api.LostValue, "item", "n"), column(api.LostNull, "item", "n"), column(api.LostColumn, "item", "spare"), column(api.LostColumn, "shelf", "note")}},
		// In the order of the columns ahead of all changes, by the names that they had.
		{[]string{"rename item thing", "order thing spare n name place shelf up box id", "move thing spare n2", "move thing n spare", "tight thing spare 1", "tight thing n2 false"}, []api.Loss{column(api.LostNull, "item", "n"), column(api.LostNull, "item", "spare")}},
		// A table that is lost tells no columns, and a column that is lost nothing else.
		{[]string{"tight item n 1", "remove item spare", "drop item"}, []api.Loss{table("item")}},
		{[]string{"cast item n bool", "tight item n true", "unindex item byname", "remove item n"}, []api.Loss{column(api.LostColumn, "item", "n")}},
		// What the list itself creates or adds loses nothing.
		{[]string{"create dog", "column id int", "column x int null", "key id", "end", "remove dog x", "drop dog"}, nil},
		{[]string{"drop item", "create item", "column id int", "column n int null", "key id", "end", "remove item n", "drop item"}, []api.Loss{table("item")}},
		{[]string{"remove item spare", "add item spare int null", "tight item spare 1", "cast item spare bool"}, []api.Loss{column(api.LostColumn, "item", "spare")}},
		{[]string{"add item x int null", "move item spare y", "move item x spare", "tight item spare 3"}, nil},
		{[]string{"create dog", "column id int", "column n int", "key id", "end", "rename item thing", "rename dog item", "cast item n bool"}, nil},
		// Other casts and ChTights lose nothing.
		{[]string{"default box label null", "cast box label int", "cast box size text", "cast box open int", "cast box seen int", "tight box seen null"}, nil},
		{[]string{"loose shelf firm", "tight shelf firm false"}, []api.Loss{column(api.LostNull, "shelf", "firm")}},
		{[]string{"cast item spare int", "cast item spare bool"}, []api.Loss{column(api.LostValue, "item", "spare")}},
		{[]string{"cast box id bool"}, nil},
	} {
		s := depot(t)
		if len(x.l) == 1 {
			s, _ = migrate.Apply(s, list(t, "unforeign item box"))
			x.want = []api.Loss{column(api.LostValue, "box", "id")}
		}
		if got, err := migrate.Lost(s, list(t, x.l...)); err != api.OK || !slices.Equal(got, x.want) {
			t.Error(x, got, err)
		}
	}
}
