package schema_test

import (
	"slices"
	"testing"

	"dumbwaiter/api"
	"dumbwaiter/schema"
)

// zooTables is the text of the schema of zooLines.
func zooTables() []string {
	return []string{
		"table cat", "column tenant int", "column id int", "column lives int default -9", "column fears_id int null", "key tenant id",
		"foreign fears dog tenant fears_id", "foreign up_ pet tenant id", "index cat_i0 tenant fears_id", "unique cat_u0 tenant lives fears_id",
		"table cat_prey", "column tenant int", "column left_id int", "column right_id int", "key tenant left_id right_id",
		"foreign left_ cat tenant left_id", "foreign right_ tag right_id", "index right_ tenant right_id",
		"table dog", "column tenant int", "column id int", "column good bool default true", "column nick text null", "column rival_id int null", "key tenant id",
		"foreign rival pet tenant rival_id", "foreign up_ pet tenant id", "unique dog_u0 tenant good nick",
		"table person", "column id int", "column type text", "column version int", "column gone moment null",
		"column name text", "column state text default 'new'", "column home_city text", "column home_zip int null default 7", "column mate_id int null",
		"column pay int null", "column since moment null", "column boss_id int null", "key id",
		"foreign boss person boss_id", "foreign mate person mate_id",
		"index person_i0 home_city state", "index person_i1 mate_id", "unique person_u0 name", "unique person_u1 home_zip mate_id", "unique worker_u0 pay", "unique worker_u1 boss_id since",
		"table person_tags", "column left_id int", "column right_id int", "key left_id right_id",
		"foreign left_ person left_id", "foreign right_ tag right_id", "index right_ right_id",
		"table pet", "column tenant int", "column id int", "column type text", "column gone moment null", "column name text null default ' '", "column owner_id int null", "key tenant id",
		"foreign owner person owner_id",
		"table pet_friends", "column tenant int", "column left_id int", "column right_id int", "key tenant left_id right_id",
		"foreign left_ pet tenant left_id", "foreign right_ pet tenant right_id", "index right_ tenant right_id",
		"table puppy", "column tenant int", "column id int", "column weeks int null", "key tenant id",
		"foreign up_ dog tenant id",
		"table tag", "column id int", "column name text null", "key id",
		"table tag_over", "column left_id int", "column right_id int", "key left_id right_id",
		"foreign left_ tag left_id", "foreign right_ tag right_id", "index right_ right_id",
	}
}

// P2.8
func TestTables(t *testing.T) {
	s, err := schema.Tables(zoo(t))
	text, textErr := schema.SchemaText(s)
	if err != api.OK || textErr != api.OK || text != lines(zooTables()...) {
		t.Error(text, err, textErr)
	}
	for _, x := range []struct{ model, tables []string }{
		{nil, nil},
		{[]string{"entity a"}, []string{"table a", "column id int", "key id"}},
		// The example of the chapter.
		{
			[]string{"entity person", "entity pet", "field name text", "one owner person need refuse"},
			[]string{"table person", "column id int", "key id", "table pet", "column id int", "column name text", "column owner_id int", "key id", "foreign owner person owner_id"},
		},
		// One table with everything; what is below a root loses its Default, and can be null.
		{
			[]string{"entity a version soft tenant", "field x int default 1", "entity b of a", "field y int default 2", "one o b need refuse", "entity c of b", "field z text default 'z'", "unique z"},
			[]string{
				"table a", "column tenant int", "column id int", "column type text", "column version int", "column gone moment null", "column x int default 1", "column y int null", "column o_id int null", "column z text null", "key tenant id",
				"foreign o a tenant o_id", "unique c_u0 tenant z",
			},
		},
		// Apart, an entity alone has no type, and entities below keep what their fields say.
		{[]string{"entity a apart version"}, []string{"table a", "column id int", "column version int", "key id"}},
		{
			[]string{"entity a apart version soft", "entity b of a", "field y int default 2", "one o c need cascade", "entity c of b"},
			[]string{
				"table a", "column id int", "column type text", "column version int", "column gone moment null", "key id",
				"table b", "column id int", "column y int default 2", "column o_id int", "key id", "foreign o c o_id", "foreign up_ a id",
				"table c", "column id int", "key id", "foreign up_ b id",
			},
		},
		// Of pairs to what has no tenant, the right ones have none.
		{
			[]string{"entity a tenant", "one x b clear", "pairs p b q", "pairs u b", "unique x", "entity b of a", "pairs q a p", "pairs w d", "entity d"},
			[]string{
				"table a", "column tenant int", "column id int", "column type text", "column x_id int null", "key tenant id", "foreign x a tenant x_id", "unique a_u0 tenant x_id",
				"table a_p", "column tenant int", "column left_id int", "column right_id int", "key tenant left_id right_id", "foreign left_ a tenant left_id", "foreign right_ a tenant right_id", "index right_ tenant right_id",
				"table a_u", "column tenant int", "column left_id int", "column right_id int", "key tenant left_id right_id", "foreign left_ a tenant left_id", "foreign right_ a tenant right_id", "index right_ tenant right_id",
				"table b_w", "column tenant int", "column left_id int", "column right_id int", "key tenant left_id right_id", "foreign left_ a tenant left_id", "foreign right_ d right_id", "index right_ tenant right_id",
				"table d", "column id int", "key id",
			},
		},
		// Names of tables are sorted by their bytes: digits come ahead of the underscore, letters behind it.
		{
			[]string{"entity b", "entity ab", "entity a1", "entity a", "pairs z a"},
			[]string{
				"table a", "column id int", "key id", "table a1", "column id int", "key id",
				"table a_z", "column left_id int", "column right_id int", "key left_id right_id", "foreign left_ a left_id", "foreign right_ a right_id", "index right_ right_id",
				"table ab", "column id int", "key id", "table b", "column id int", "key id",
			},
		},
	} {
		m, want := api.Model{}, ""
		if len(x.model) > 0 {
			m, want = read(t, x.model...), lines(x.tables...)
		}
		s, err := schema.Tables(m)
		text, textErr := schema.SchemaText(s)
		if err != api.OK || textErr != api.OK || text != want {
			t.Errorf("%q\n%s %d %d", x.model, text, err, textErr)
		}
	}
	if s, err := schema.Tables(api.Model{Entities: make([]api.Entity, 1)}); err != api.ErrName || len(s.Tables) > 0 {
		t.Error(s, err)
	}
}

// P2.8: the tables of every model are a right schema.
func TestTablesOfRandomModels(t *testing.T) {
	randomly(t, 1000, func(t *testing.T, r maker) {
		m := r.model()
		s, err := schema.Tables(m)
		if err != api.OK || schema.CheckSchema(s) != api.OK {
			text, _ := schema.Text(m)
			t.Error(text, s, err, schema.CheckSchema(s))
		}
	})
}

// P2.9
func TestColumn(t *testing.T) {
	m := zoo(t)
	for _, x := range []struct{ entity, slot, table, column string }{
		{"person", "id", "person", "id"}, {"person", "type", "person", "type"}, {"person", "version", "person", "version"}, {"person", "gone", "person", "gone"}, {"worker", "gone", "person", "gone"}, {"worker", "type", "person", "type"},
		{"person", "name", "person", "name"}, {"worker", "name", "person", "name"}, {"worker", "home.city", "person", "home_city"}, {"worker", "boss", "person", "boss_id"}, {"worker", "pay", "person", "pay"}, {"worker", "mate", "person", "mate_id"},
		{"puppy", "tenant", "pet", "tenant"}, {"puppy", "id", "pet", "id"}, {"puppy", "type", "pet", "type"}, {"puppy", "gone", "pet", "gone"}, {"puppy", "name", "pet", "name"}, {"puppy", "owner", "pet", "owner_id"}, {"puppy", "nick", "dog", "nick"}, {"puppy", "rival", "dog", "rival_id"}, {"puppy", "weeks", "puppy", "weeks"}, {"cat", "fears", "cat", "fears_id"},
		{"tag", "id", "tag", "id"}, {"tag", "name", "tag", "name"},
	} {
		if table, column, err := schema.Column(m, x.entity, x.slot); err != api.OK || table != x.table || column != x.column {
			t.Error(x, table, column, err)
		}
	}
	for _, x := range [][2]string{
		{"person", "tenant"}, {"puppy", "version"}, {"tag", "type"}, {"tag", "gone"}, {"tag", "version"}, {"tag", "tenant"},
		{"person", "pay"}, {"person", "tall"}, {"worker", "sum"}, {"person", "pets"}, {"person", "tags"}, {"person", "home"}, {"person", "city"}, {"person", "home_city"}, {"worker", "boss_id"}, {"dog", "weeks"}, {"cat", "nick"}, {"person", ""}, {"person", "home.none"}, {"person", "void"}, {"person", "ID"},
	} {
		if table, column, err := schema.Column(m, x[0], x[1]); err != api.ErrName || table != "" || column != "" {
			t.Error(x, table, column, err)
		}
	}
}

// P2.9: each slot has a column, which has its kind.
func TestColumnOfRandomModels(t *testing.T) {
	randomly(t, 300, func(t *testing.T, r maker) {
		m := r.model()
		s, _ := schema.Tables(m)
		for _, e := range m.Entities {
			slots, _ := schema.Slots(m, e.Name)
			for _, slot := range slots {
				table, column, err := schema.Column(m, e.Name, slot.Name)
				i := slices.IndexFunc(s.Tables, func(t api.Table) bool { return t.Name == table })
				if err != api.OK || i < 0 {
					t.Error(slot, table, err)
					continue
				}
				kind := slot.Kind
				if slot.To != "" {
					kind = api.Int
				}
				if !slices.ContainsFunc(s.Tables[i].Columns, func(c api.Column) bool { return c.Name == column && c.Kind == kind }) {
					t.Error(slot, table, column)
				}
			}
		}
	})
}
