package schema_test

import (
	"strings"
	"testing"

	"dumbwaiter/api"
	"dumbwaiter/schema"
)

// P2.3
func TestText(t *testing.T) {
	m := zoo(t)
	if s, err := schema.Text(m); err != api.OK || s != lines(zooLines()...) {
		t.Error(s, err)
	}
	want := api.Model{
		Embeds: []api.Embed{{Name: "em", Fields: []api.Field{{Name: "x", Kind: api.Moment, Null: true, Default: moment(0)}}}},
		Entities: []api.Entity{
			{
				Name: "a", Apart: true, Version: true, Soft: true, Tenant: true,
				Fields: []api.Field{
					{Name: "b", Kind: api.Bool, Default: boolean(0)}, {Name: "i", Kind: api.Int, Null: true, Default: integer(-5)}, {Name: "t", Kind: api.Text, Default: text("it's"), Texts: []string{"", "it's", "'", " a  b "}},
					{Name: "e", Of: "em"}, {Name: "f", Kind: api.Text, Formula: []api.Expr{{Kind: api.XOp, Op: api.OpConcat, Args: []api.Expr{{Kind: api.XColumn, Name: "t"}, {Kind: api.XValue, Value: text("' b")}}}}},
				},
				Relations: []api.Relation{{Name: "o", Kind: api.RelOne, To: "a", Need: true, OnDelete: api.Cascade, Cascade: true}, {Name: "m", Kind: api.RelMany, To: "a", Back: "o", Cascade: true}, {Name: "p", Kind: api.RelPairs, To: "b"}, {Name: "o2", Kind: api.RelOne, To: "a", OnDelete: api.Clear}},
				Uniques:   [][]string{{"b"}, {"i", "e.x", "o"}},
				Indexes:   [][]string{{"t"}},
			},
			{Name: "b", Parent: "a"},
		},
	}
	l := []string{
		"embed em", "field x moment null default @1970-01-01T00:00:00",
		"entity a apart version soft tenant", "field b bool default false", "field i int null default -5", "field t text default 'it''s' texts '' 'it''s' '''' ' a  b '", "field e embed em", "field f text = concat(:t,''' b')",
		"one o a need cascade save", "many m a o save", "pairs p b", "one o2 a clear", "unique b", "unique i e.x o", "index t",
		"entity b of a",
	}
	if s, err := schema.Text(want); err != api.OK || s != lines(l...) {
		t.Error(s, err)
	}
	if m, err := schema.Read(lines(l...)); err != api.OK || !same(m, want) {
		t.Error(m, err)
	}
	if m, err := schema.Read(""); err != api.OK || !same(m, api.Model{}) {
		t.Error(m, err)
	}
	if s, err := schema.Text(api.Model{}); err != api.OK || s != "" {
		t.Error(s, err)
	}
	want.Entities[1].Name = ""
	if s, err := schema.Text(want); err != api.ErrName || s != "" {
		t.Error(s, err)
	}
}

// P2.3
func TestReadSyntax(t *testing.T) {
	for _, s := range []string{
		"\n", "entity a", "entity a\n\n", "\nentity a\n", "entity a\r\n", " entity a\n", "entity a \n", "entity  a\n", "entity\ta\n", "entity\n", "entity \n", "Entity a\n", "entity A\n", "entity a_b\n", "entity a.b\n", "entity é\n", "entity a\x00\n", "a\n", "entity 'a'\n",
		"embed\n", "embed a b\n", "embed A\n", "embed a\nembed\n", "embed a\nunique x\n", "embed a\none b a refuse\n", "embed a\nmany b a c\n", "entity a\nembed b\n", "entity a\nembed b\nfield x int\n",
		"entity a of\n", "entity a of \n", "entity a of b c\n", "entity a of b of c\n", "entity a b\n", "entity a apart of b\n", "entity a version apart\n", "entity a soft soft\n", "entity a tenant soft\n", "entity a need\n", "entity a of B\n",
		"field x int\n", "one x a refuse\n", "unique x\n", "index x\n", "key x\n",
	} {
		if m, err := schema.Read(s); err != api.ErrSyntax || !same(m, api.Model{}) {
			t.Errorf("%q %v %d", s, m, err)
		}
	}
	// Each of these lines stands in an entity with the name a, the first two in an embedded value.
	for _, line := range []string{
		"field", "field x", "field x ", "field x null", "field x 2", "field X int", "field x_y int", "field  x int", "field x int ", "field x  int", "field x int  null", "field 'x' int", "field x Int", "field x moments", "field x int nul", "field x int null null", "field x int 5",
		"field x int default", "field x int default null", "field x int default nul", "field x int default 05", "field x int default 1 null", "field x int default 1 default 1", "field x int default 1000000000000000", "field x text default 'a", "field x text default a", "field x text default 'a'b'", "field x text default ''' ''", "field x text default 'a\x7f'", "field x text default 'a\tb'", "field x text default '" + long(101) + "'", "field x moment default @2026-02-30T00:00:00",
		"field x text texts", "field x text texts ", "field x text texts a", "field x text texts 5", "field x text texts null", "field x text texts 'a'  'b'", "field x text texts 'a','b'", "field x text texts 'a' default 'a'", "field x text texts 'a' null", "field x text texts 'a' texts 'b'", "field x text texts '" + long(101) + "'",
		"field x embed", "field x embed ", "field x embed y z", "field x embed Y", "field x embed y null", "field x embed y default 1", "field x embed = y", "field x embed y.z",
		"field x int =", "field x int = ", "field x int = y", "field x int = :y :z", "field x int = add(:y, 1)", "field x int null = :y", "field x int = :y null", "field x int default 1 = :y", "field x int =:y", "field x = :y", "field x int = add(:y)", "field x int = " + strings.Repeat("not(", 24) + ":b" + strings.Repeat(")", 24), "field x int == 1", "field x texts = 1",
		"one", "one x", "one x a", "one x a ", "one x a need", "one x a save", "one x a b", "one x a refuse need", "one x a save refuse", "one x a refuse cascade", "one x a need need refuse", "one x a refuse save save", "one x a b c refuse", "one x a need b refuse", "one x a refuse b", "one need a refuse", "one save a refuse", "one refuse a refuse", "one cascade a refuse", "one clear a refuse", "one X a refuse", "one x A refuse", "one x a B refuse", "one x a b.c refuse", "one x  a refuse", "one x_y a refuse",
		"many x", "many x a need", "many x a refuse", "many x a b refuse", "many x a b need", "many x a save b", "many x a b c", "many save a b", "many x a b save save", "many x a b_", "pairs x", "pairs x a clear", "pairs x a need", "pairs x a b cascade", "pairs need a", "pairs x a b c", "pair x a",
		"unique ", "unique x ", "unique  x", "unique x_y", "unique X", "unique x,y", "index ", "index x Y", "index 'x'", "uniques x", "apart", "of b",
		// Lines in another order.
		"one x a refuse\nfield x int", "unique x\nfield x int", "unique x\none x a refuse", "index x\nunique x", "index x\nfield x int", "index x\none x a refuse", "unique x\nindex x\nunique x",
	} {
		for _, s := range []string{lines("entity a", line), lines("entity a", "field ok int", line, "entity b")} {
			if m, err := schema.Read(s); err != api.ErrSyntax || !same(m, api.Model{}) {
				t.Errorf("%q %v %d", s, m, err)
			}
		}
		if s := lines("embed a", line); strings.HasPrefix(line, "field") {
			if m, err := schema.Read(s); err != api.ErrSyntax || !same(m, api.Model{}) {
				t.Errorf("%q %v %d", s, m, err)
			}
		}
	}
}

// P2.3: texts of models that Check does not accept.
func TestReadErrors(t *testing.T) {
	many := func(count int, line string) string { return strings.Repeat(line+"\n", count) }
	for _, x := range []struct {
		s    string
		want api.Errno
	}{
		{"entity 1\n", api.ErrName}, {"entity " + long(13) + "\n", api.ErrName}, {"embed 1\n", api.ErrName}, {"embed a\nembed a\n", api.ErrTwice}, {many(9, "embed a"), api.ErrLarge}, {many(17, "entity a"), api.ErrLarge}, {many(3000, "entity 0a of b apart version soft tenant"), api.ErrLarge},
		{"entity a of a\n", api.ErrName}, {"entity a of of\n", api.ErrName}, {"entity of of apart\n", api.ErrName},
		{"entity a\nfield x int texts 'a'\n", api.ErrForm}, {"entity a\nfield x int null default 'a' texts 'a'\n", api.ErrForm}, {"entity a\nfield x int default 'a'\n", api.ErrType}, {"entity a\nfield x text default 'a' texts 'b'\n", api.ErrArg}, {"entity a\nfield x text texts 'a' 'a'\n", api.ErrTwice}, {"entity a\nfield x text texts '1' '2' '3' '4' '5' '6' '7' '8' '9'\n", api.ErrLarge},
		{"entity a\nfield x embed y\n", api.ErrName}, {"embed y\nfield x embed y\n", api.ErrKind}, {"embed y\nfield x int = 1\n", api.ErrForm}, {"embed y\nfield x embed null\n", api.ErrName},
		{"entity a\nfield x int = :y\n", api.ErrName}, {"entity a\nfield x int = y_.z:._\n", api.ErrName}, {"entity a\nfield x int = ?0\n", api.ErrArg}, {"entity a\nfield x int = 'a  = b'\n", api.ErrType}, {"entity a\nfield x int = add(true,1)\n", api.ErrType},
		{"entity a\none x a b refuse\n", api.ErrForm}, {"entity a\nmany x a\n", api.ErrForm}, {"entity a\nmany x a save\n", api.ErrForm}, {"entity a\none x need refuse\n", api.ErrName}, {"entity a\none x save save refuse\n", api.ErrSyntax}, {"entity a\nmany x save save\n", api.ErrForm}, {"entity a\none 1 a refuse\n", api.ErrName}, {"entity a\none x 1 need clear\n", api.ErrForm},
		{"entity a\nunique\n", api.ErrForm}, {"entity a\nindex\n", api.ErrForm}, {"entity a\nunique need\n", api.ErrName}, {"entity a\nunique .\n", api.ErrName}, {"entity a\nindex a..b 1\n", api.ErrName}, {"entity a\n" + many(7, "index x"), api.ErrLarge}, {"entity a\nunique a b c d e f g h\n", api.ErrForm},
		// ErrLarge is the first error, and a text of the greatest length can be read.
		{strings.Repeat(" ", api.MaxListing+1), api.ErrLarge}, {strings.Repeat(" ", api.MaxListing), api.ErrSyntax}, {strings.Repeat("'", api.MaxListing), api.ErrSyntax}, {strings.Repeat("\n", api.MaxListing), api.ErrSyntax}, {"entity " + long(api.MaxListing-8) + "\n", api.ErrName}, {"entity " + long(api.MaxListing-7) + "\n", api.ErrLarge},
	} {
		if m, err := schema.Read(x.s); err != x.want || !same(m, api.Model{}) {
			t.Errorf("%.100q %d %d", x.s, x.want, err)
		}
	}
}

// listed is a model whose text has so many bytes, at least 55000: they are in its formulas.
func listed(t *testing.T, bytes int) api.Model {
	t.Helper()
	var m api.Model
	for i := range 8 {
		e := api.Entity{Name: "e" + string(rune('a'+i))}
		for k := range 2 {
			e.Fields = append(e.Fields, api.Field{Name: "f" + string(rune('a'+k)), Kind: api.Bool, Formula: []api.Expr{{Kind: api.XIn}}})
		}
		m.Entities = append(m.Entities, e)
	}
	size := 0
	for _, e := range m.Entities {
		size += len("entity " + e.Name + "\n")
		for _, f := range e.Fields {
			size += len("field " + f.Name + " bool = in()\n")
		}
	}
	for i := range 16 {
		args := &m.Entities[i/2].Fields[i%2].Formula[0].Args
		for range 2 {
			*args = append(*args, api.Expr{Kind: api.XValue, Value: text("")})
		}
		size += len("'',''")
		for len(*args) < 45 && size+103 <= bytes-100 {
			*args = append(*args, api.Expr{Kind: api.XValue, Value: text(long(100))})
			size += 103
		}
	}
	rest := bytes - size
	args := m.Entities[0].Fields[0].Formula[0].Args
	args[0].Value, args[1].Value = text(long(rest/2)), text(long(rest-rest/2))
	return m
}

// P2.3: the limit of the text.
func TestTextLarge(t *testing.T) {
	for _, bytes := range []int{api.MaxListing - 1, api.MaxListing} {
		m := listed(t, bytes)
		s, err := schema.Text(m)
		if err != api.OK || len(s) != bytes {
			t.Error(bytes, len(s), err)
		}
		if back, err := schema.Read(s); err != api.OK || !schema.Equal(back, m) {
			t.Error(bytes, err)
		}
	}
	if s, err := schema.Text(listed(t, api.MaxListing+1)); err != api.ErrLarge || s != "" {
		t.Error(len(s), err)
	}
	// A formula alone can be too long, while the text without it would not be.
	m := api.Model{Entities: []api.Entity{{Name: "a", Fields: []api.Field{{Name: "x", Kind: api.Bool, Formula: []api.Expr{{Kind: api.XIn}}}}}}}
	args := &m.Entities[0].Fields[0].Formula[0].Args
	for range 399 {
		*args = append(*args, api.Expr{Kind: api.XValue, Value: text(strings.Repeat("'", 100))})
	}
	if err := schema.Check(m); err != api.OK {
		t.Error(err)
	}
	if s, err := schema.Text(m); err != api.ErrLarge || s != "" {
		t.Error(len(s), err)
	}
}

// P2.3
func TestTextOfRandomModels(t *testing.T) {
	randomly(t, 1500, func(t *testing.T, r maker) {
		m := r.model()
		s, err := schema.Text(m)
		back, backErr := schema.Read(s)
		if err != api.OK || backErr != api.OK || !same(back, m) || !schema.Equal(back, m) {
			t.Error(s, err, backErr)
		}
		// A text with a change is that of another model, or of none.
		bytes := []byte(s)
		bytes[r.Intn(len(bytes))] = " \n'=:.,()aefnx01"[r.Intn(16)]
		if other, err := schema.Read(string(bytes)); err == api.OK {
			if again, err := schema.Text(other); err != api.OK || again != string(bytes) || schema.Equal(other, m) != (again == s) {
				t.Error(again, string(bytes))
			}
		} else if !same(other, api.Model{}) {
			t.Error(other, err)
		}
	})
}

// P2.3: Equal, for each single field.
func TestEqual(t *testing.T) {
	deep := func() api.Model {
		e := api.Expr{Kind: 1, Args: []api.Expr{{Kind: 2, Op: 3, N: 4, Value: text("a"), Source: "b", Name: "c", Distinct: true}}, Group: []api.Expr{{}}, Order: []api.Order{{Desc: true}}}
		e.Sub = []api.Select{{Items: []api.Item{{Name: "i"}}, From: []api.Source{{Name: "s", Table: "t", Sub: []api.Select{{}}}}, Joins: []api.Join{{Source: api.Source{Name: "j"}}}, Where: []api.Expr{{}}, Group: []api.Expr{{}}, Having: []api.Expr{{}}, Order: []api.Order{{}}, Limit: -1}}
		m := checked(t)
		m.Entities[0].Fields[0].Formula = []api.Expr{e}
		return m
	}
	m := deep()
	changes := 0
	eachChange(&m, func(what string) {
		changes++
		if other := deep(); schema.Equal(m, other) || schema.Equal(other, m) || !schema.Equal(m, m) {
			t.Error(what)
		}
	})
	if !schema.Equal(m, deep()) || changes < 300 {
		t.Error(changes)
	}
	a := api.Model{Embeds: []api.Embed{}, Entities: []api.Entity{{Fields: []api.Field{{Texts: []string{}, Formula: []api.Expr{}}}, Uniques: [][]string{{}}}}}
	b := api.Model{Entities: []api.Entity{{Fields: []api.Field{{}}, Relations: []api.Relation{}, Uniques: [][]string{nil}, Indexes: [][]string{}}}}
	if !schema.Equal(a, b) {
		t.Error("empty and nil")
	}
}

// P2.3: Read accepts nothing but what Text writes.
func FuzzRead(f *testing.F) {
	f.Add(lines(zooLines()...))
	f.Add("embed a\nfield x text null default 'a' texts 'a' 'b'\nentity b of c soft\nfield x embed a\none x y z need refuse save\nunique x.y\nindex x\n")
	f.Fuzz(func(t *testing.T, s string) {
		m, err := schema.Read(s)
		if err != api.OK {
			if !same(m, api.Model{}) {
				t.Error(s, m)
			}
			return
		}
		if back, err := schema.Text(m); err != api.OK || back != s {
			t.Error(s, back, err)
		}
	})
}
