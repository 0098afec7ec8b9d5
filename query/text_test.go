package query_test

import (
	"strings"
	"testing"

	"dumbwaiter/api"
	"dumbwaiter/query"
	"dumbwaiter/value"
)

// P5.18: texts of conditions, written and read.
func TestExprText(t *testing.T) {
	for s, e := range map[string]api.Expr{
		"some:pets()": multi(api.XSome, "pets"), "every:a.b_1(null)": multi(api.XEvery, "a.b_1", lit(null)), "many:x(many:y())": multi(api.XMany, "x", multi(api.XMany, "y")), "many:...(true)": multi(api.XMany, "...", lit(boolean(1))),
		"some:az09_.z()": multi(api.XSome, "az09_.z"), "is:dog()": {Kind: api.XIs, Name: "dog"}, "is:1(:a.b)": {Kind: api.XIs, Name: "1", Source: "a.b"}, "is:is(:up)": {Kind: api.XIs, Name: "is", Source: "up"},
		"up:owner.name": col("up", "owner.name"), "some:pets": col("some", "pets"), ":some": col("", "some"), "is:dog": col("is", "dog"), "x.y:z_": col("x.y", "z_"),
		"and(some:pets(less(:age,3)),is:dog())":     op(api.OpAnd, multi(api.XSome, "pets", op(api.OpLess, col("", "age"), lit(integer(3)))), api.Expr{Kind: api.XIs, Name: "dog"}),
		"in('it''s (,)',',','')":                    {Kind: api.XIn, Args: []api.Expr{lit(text("it's (,)")), lit(text(",")), lit(text(""))}},
		"case(some:a('x'),-5,cast.2(?59))":          {Kind: api.XCase, Args: []api.Expr{multi(api.XSome, "a", lit(text("x"))), lit(integer(-5)), {Kind: api.XOp, Op: api.OpCast, N: 2, Args: []api.Expr{{Kind: api.XParam, N: 59}}}}},
		"unit.6(@2026-11-17T09:05:00)":              {Kind: api.XOp, Op: api.OpUnit, N: 6, Args: []api.Expr{lit(moment(1794906300))}},
		"null":                                      lit(null),
		"not(not(some:x(concat('a(',')'))))":        nested(2, multi(api.XSome, "x", op(api.OpConcat, lit(text("a(")), lit(text(")"))))),
		"every:some(every:every(every:is(:every)))": multi(api.XEvery, "some", multi(api.XEvery, "every", multi(api.XEvery, "is", col("", "every")))),
	} {
		if got, err := query.ExprText(e); got != s || err != api.OK {
			t.Error(s, got, err)
		}
		if got, err := query.ExprRead(s); !same(got, e) || err != api.OK {
			t.Error(s, got, err)
		}
	}
}

// P5.18: scalar expressions have the texts of package value.
func TestScalarTexts(t *testing.T) {
	randomly(t, 200, func(t *testing.T, r *maker) {
		e := r.scalar(1+r.Intn(4), 5, []leaf{{"a", api.Bool}, {"b.c", api.Int}, {"d_", api.Text}, {"e", api.Moment}})
		want, err := value.ExprText(e)
		got, e2 := query.ExprText(e)
		if got != want || err != api.OK || e2 != api.OK {
			t.Error(want, got, err, e2)
		}
		if again, err := query.ExprRead(want); !same(again, e) || err != api.OK {
			t.Error(want, again, err)
		}
	})
}

// P5.18: errors of ExprText, of each part those ahead of its Args, those of its Args, those behind them.
func TestExprTextErrors(t *testing.T) {
	bad := api.Expr{Kind: 99}
	for i, c := range []struct {
		e    api.Expr
		want api.Errno
	}{
		{nested(24, bad), api.ErrLarge}, {nested(23, bad), api.ErrKind}, {api.Expr{Kind: api.XIn, Args: many(400, bad)}, api.ErrLarge},
		{multi(api.XSome, "", bad, bad), api.ErrForm}, {multi(api.XEvery, ""), api.ErrForm}, {api.Expr{Kind: api.XIs, Name: "", Args: []api.Expr{bad}}, api.ErrForm}, {api.Expr{Kind: api.XSome, Source: "x", Args: []api.Expr{bad}}, api.ErrForm}, {api.Expr{Kind: api.XMany, Name: "x", N: 1}, api.ErrForm}, {api.Expr{Kind: api.XIs, Name: "x", Sub: make([]api.Select, 1)}, api.ErrForm},
		{multi(api.XSome, "", bad), api.ErrKind}, {multi(api.XSome, "", lit(null)), api.ErrName}, {multi(api.XSome, "A"), api.ErrName}, {multi(api.XMany, "a b"), api.ErrName}, {api.Expr{Kind: api.XIs}, api.ErrName}, {api.Expr{Kind: api.XIs, Name: "a", Source: "a:"}, api.ErrName}, {api.Expr{Kind: api.XIs, Name: "\n", Source: "a"}, api.ErrName},
		{op(api.OpAnd, multi(api.XSome, ""), bad), api.ErrName}, {op(api.OpAnd, bad, multi(api.XSome, "")), api.ErrKind}, {op(api.OpAnd, multi(api.XSome, "x")), api.ErrForm}, {op(99, multi(api.XSome, "")), api.ErrName},
		{col("", ""), api.ErrName}, {col("A", "x"), api.ErrName}, {col("", "x-"), api.ErrName}, {api.Expr{Kind: api.XParam, N: 60}, api.ErrArg}, {api.Expr{Kind: api.XParam, N: -1}, api.ErrArg}, {op(api.OpCast, multi(api.XMany, "x")), api.ErrArg}, {lit(text("\n")), api.ErrArg}, {lit(text(long(101))), api.ErrLarge}, {api.Expr{Kind: api.XExists}, api.ErrKind},
		// What the document of the model says does not matter.
		{op(api.OpNot, lit(integer(5))), api.OK}, {multi(api.XSome, "a.a.a.a.a.a.a", col("up", "x")), api.OK},
		{multi(api.XSome, long(api.MaxListing-7)), api.OK}, {multi(api.XSome, long(api.MaxListing-6)), api.ErrLarge}, {op(api.OpNot, multi(api.XSome, long(api.MaxListing-11))), api.ErrLarge},
	} {
		s, err := query.ExprText(c.e)
		if err != c.want || err != api.OK && s != "" {
			t.Error(i, len(s), err, c.want)
		}
		if err == api.OK {
			if e, err := query.ExprRead(s); !same(e, c.e) || err != api.OK {
				t.Error(i, err)
			}
		}
	}
}

// P5.18: texts of no condition, and large ones.
func TestExprReadErrors(t *testing.T) {
	for _, s := range []string{
		"", " ", "some", "some:", "some:()", "some:(a)", "some:pets(", "some:pets)", "some:pets())", "some:pets() ", " some:pets()", "some:pets(,)", "some:pets(:a,)", "some:pets(:a,:b)", "some:pets( )", "some:Pets()", "some::pets()", "Some:pets()", "any:pets()", "up:pets()", ":pets()", "some:a:b()", "some:pets(x)",
		"every:pets()", "every:pets(:a,:b)", "many:pets(:a,:b)", "many:pets(:)", "is:()", "is:(:a)", "is:dog(", "is:dog(:)", "is:dog(a)", "is:dog(up:a)", "is:dog(:a,:b)", "is:dog(null)", "is:dog(:a ", "is:dog(is:dog())", "is:dog(:a(:b))",
		"and(:a,:b", "and(:a)", "and()", "and(:a,:b,:c)", "and(:a,,:b)", "and :a,:b)", "not(:a):b", "'a", "'a''", "a'b'", "'a'b", "'a'(:b)", "not('a''b)", "(:a)", "()", "(", ")", ",", ":a,:b", ":a:b", "?", "?60", "?01", "-", "- 5", "05", "+5", "@", "@2026-11-17T09:05:0", "case(:a,:b)", "coalesce(:a)", "in(:a)", "cast(:a)", "cast.9(:a)", "cast.02(:a)", "not.1(:a)", "5(:a)", "null(:a)(:b)", "true(:a)",
		"coalesce(" + strings.Repeat("1,", 600) + "1", "case(" + strings.Repeat("1,", 601) + "1)", "and(" + strings.Repeat("1,", 600) + "1)", "coalesce(" + strings.Repeat("1,", 600) + "x)", strings.Repeat("not(", 30) + "x" + strings.Repeat(")", 30), strings.Repeat("some:a(", 9000),
	} {
		if e, err := query.ExprRead(s); !same(e, api.Expr{}) || err != api.ErrSyntax {
			t.Error(s, e, err)
		}
	}
	for _, s := range []string{
		"'" + long(api.MaxListing) + "'", strings.Repeat("x", api.MaxListing+1), "coalesce(" + strings.Repeat("1,", 400) + "1)", "case(" + strings.Repeat("1,", 600) + "1)", "in(" + strings.Repeat("some:a(),", 599) + "1)", strings.Repeat("not(", 24) + "1" + strings.Repeat(")", 24), strings.Repeat("some:a(", 24) + "null" + strings.Repeat(")", 24), strings.Repeat("some:a(", 8000) + "1" + strings.Repeat(")", 8000),
	} {
		if e, err := query.ExprRead(s); !same(e, api.Expr{}) || err != api.ErrLarge {
			t.Error(s[:20], len(s), err)
		}
	}
	if _, err := query.ExprRead(strings.Repeat("some:a(", 23) + "null" + strings.Repeat(")", 23)); err != api.OK {
		t.Error(err)
	}
	if e, err := query.ExprRead("coalesce(" + strings.Repeat("1,", 398) + "1)"); len(e.Args) != 399 || err != api.OK {
		t.Error(err)
	}
}

// findText is a text with all lines.
func findText() string {
	return lines("find person", "where and(some:pets(equal(:name,'it''s  x')),?3)", "order age", "order home.city desc", "order mate.id last", "order name desc last", "limit 5", "offset 2", "gone", "tenant 7", "include pets.owner", "include mate")
}

// fullFind is the find of findText.
func fullFind(t testing.TB) api.Find {
	return api.Find{Entity: "person", Where: conds(t, "and(some:pets(equal(:name,'it''s  x')),?3)"), Order: orders("age", "home.city desc", "mate.id last", "name desc last"), Limit: 5, Offset: 2, Gone: true, Tenant: 7, Include: []string{"pets.owner", "mate"}}
}

// P5.19: texts of finds, written and read.
func TestText(t *testing.T) {
	for s, f := range map[string]api.Find{
		findText():            fullFind(t),
		"find a\n":            {Entity: "a", Limit: -1},
		"find ._9\nlimit 0\n": {Entity: "._9"},
		"find a\ngone\n":      {Entity: "a", Limit: -1, Gone: true},
		"find a\nlimit -2\noffset -1\ntenant -999999999999999\n":                       {Entity: "a", Limit: -2, Offset: -1, Tenant: -api.MaxInt},
		"find a\nlimit 999999999999999\n":                                              {Entity: "a", Limit: api.MaxInt},
		"find desc\norder desc\norder last desc\norder desc desc last\ninclude desc\n": {Entity: "desc", Order: orders("desc", "last desc", "desc desc last"), Limit: -1, Include: []string{"desc"}},
		"find a\nwhere ' order x '\ninclude x\ninclude x\n":                            {Entity: "a", Where: []api.Expr{lit(text(" order x "))}, Limit: -1, Include: []string{"x", "x"}},
	} {
		if got, err := query.Text(f); got != s || err != api.OK {
			t.Error(s, got, err)
		}
		if got, err := query.Read(s); !same(got, f) || err != api.OK {
			t.Error(s, got, err)
		}
	}
}

// P5.19: errors of Text.
func TestTextErrors(t *testing.T) {
	tryFaults(t, fullFind(t), func(f api.Find) api.Errno {
		s, err := query.Text(f)
		if err != api.OK && s != "" {
			t.Error(s)
		}
		return err
	}, []fault[api.Find]{
		{"where", func(f *api.Find) { f.Where = many(2, lit(null)) }, api.ErrForm},
		{"where", func(f *api.Find) { f.Where = []api.Expr{nested(24, lit(null))} }, api.ErrLarge},
		{"where", func(f *api.Find) { f.Where = []api.Expr{{}} }, api.ErrKind},
		{"where", func(f *api.Find) { f.Where = []api.Expr{multi(api.XEvery, "x")} }, api.ErrForm},
		{"entity", func(f *api.Find) { f.Entity = "" }, api.ErrName},
		{"entity", func(f *api.Find) { f.Entity = "a b" }, api.ErrName},
		{"order", func(f *api.Find) { f.Order[3].Path = "" }, api.ErrName},
		{"order", func(f *api.Find) { f.Order[0].Path = "a\n" }, api.ErrName},
		{"include", func(f *api.Find) { f.Include[1] = "A" }, api.ErrName},
		{"large", func(f *api.Find) { f.Include = append(f.Include, long(api.MaxListing)) }, api.ErrLarge},
	})
	f := api.Find{Entity: "a", Limit: -1, Include: []string{long(api.MaxListing - 16)}}
	s, err := query.Text(f)
	if len(s) != api.MaxListing || err != api.OK {
		t.Error(len(s), err)
	}
	if got, err := query.Read(s); !same(got, f) || err != api.OK {
		t.Error(err)
	}
	if _, err := query.Read(s + "x"); err != api.ErrLarge {
		t.Error(err)
	}
	f.Include[0] += "x"
	if _, err := query.Text(f); err != api.ErrLarge {
		t.Error(err)
	}
}

// P5.19: texts of no find.
func TestReadErrors(t *testing.T) {
	for _, s := range []string{
		"", "\n", "find", "find \n", "find a", "find a\n\n", "\nfind a\n", "find a \n", " find a\n", "find  a\n", "find a b\n", "find A\n", "find a\r\n", "Find a\n", "find a\nfind a\n",
		"find a\nwhere\n", "find a\nwhere \n", "find a\nwhere x\n", "find a\nwhere null\nwhere null\n", "find a\nwhere  null\n", "find a\nwhere null \n",
		"find a\norder\n", "find a\norder \n", "find a\norder x \n", "find a\norder x up\n", "find a\norder x last desc\n", "find a\norder x desc desc\n", "find a\norder x desc  last\n", "find a\norder x desclast\n", "find a\norder X\n", "find a\norder x desc last \n", "find a\norder  x\n",
		"find a\nlimit\n", "find a\nlimit \n", "find a\nlimit -1\n", "find a\nlimit 01\n", "find a\nlimit +1\n", "find a\nlimit 1 \n", "find a\nlimit x\n", "find a\nlimit 1000000000000000\n", "find a\nlimit -1000000000000000\n", "find a\nlimit 99999999999999999999\n", "find a\nlimit 1\nlimit 1\n", "find a\nlimit -0\n",
		"find a\noffset 0\n", "find a\noffset 00\n", "find a\ntenant 0\n", "find a\ntenant -0\n", "find a\ngone \n", "find a\ngone true\n", "find a\ngone\ngone\n",
		"find a\noffset 1\nlimit 1\n", "find a\ngone\noffset 1\n", "find a\ntenant 1\ngone\n", "find a\ninclude x\ntenant 1\n", "find a\nlimit 1\norder x\n", "find a\norder x\nwhere null\n", "find a\nwhere null\nfind a\n",
		"find a\ninclude\n", "find a\ninclude \n", "find a\ninclude x y\n", "find a\ninclude x,y\n", "find a\ninclude x\n\n", "find a\ninclude x", "find a\nlast x\n",
		// What is large comes behind what is not of the form.
		"find a\nwhere " + strings.Repeat("not(", 24) + "1" + strings.Repeat(")", 24) + "\nlimit -1\n", "find a\nwhere " + strings.Repeat("not(", 24) + "1" + strings.Repeat(")", 24) + "\nx\n", "find a\nwhere " + strings.Repeat("not(", 24) + "x" + strings.Repeat(")", 24) + "\n",
	} {
		if f, err := query.Read(s); !same(f, api.Find{}) || err != api.ErrSyntax {
			t.Errorf("%q %v %v", s, f, err)
		}
	}
	for _, s := range []string{"find a\nwhere " + strings.Repeat("not(", 24) + "1" + strings.Repeat(")", 24) + "\nlimit 1\n", strings.Repeat("\n", api.MaxListing+1)} {
		if f, err := query.Read(s); !same(f, api.Find{}) || err != api.ErrLarge {
			t.Error(f, err)
		}
	}
}

// P5.18, P5.19: texts of finds at random are read again, and spoilt ones are either of no find or the text of what was read.
func TestRandomTexts(t *testing.T) {
	randomly(t, 500, func(t *testing.T, r *maker) {
		f := r.find()
		f.Include = []string{"a", "b.c"}[:r.Intn(3)]
		s, err := query.Text(f)
		must(t, err)
		if got, err := query.Read(s); !same(got, f) || err != api.OK {
			t.Error(s, got, err)
		}
		for range 30 {
			checkRead(t, r.spoilt(s))
		}
		for _, e := range f.Where {
			s, err := query.ExprText(e)
			must(t, err)
			for range 30 {
				checkExprRead(t, r.spoilt(s))
			}
		}
	})
}

// spoilt is a text with a byte left out, doubled, exchanged, or the text up to it.
func (r *maker) spoilt(s string) string {
	i := r.Intn(len(s))
	const others = "(),:.?'_ \n@-0a"
	switch r.Intn(4) {
	case 0:
		return s[:i] + s[i+1:]
	case 1:
		return s[:i+1] + s[i:]
	case 2:
		return s[:i] + string(others[r.Intn(len(others))]) + s[i+1:]
	}
	return s[:i]
}

// checkRead checks that a text is of no find, or that of the find that was read.
func checkRead(t *testing.T, s string) {
	t.Helper()
	f, err := query.Read(s)
	if err == api.ErrSyntax || err == api.ErrLarge {
		return
	}
	if again, e := query.Text(f); again != s || e != api.OK || err != api.OK {
		t.Errorf("%q %q %v %v", s, again, err, e)
	}
}

// checkExprRead checks that a text is of no condition, or that of the condition that was read.
func checkExprRead(t *testing.T, s string) {
	t.Helper()
	x, err := query.ExprRead(s)
	if err == api.ErrSyntax || err == api.ErrLarge {
		return
	}
	if again, e := query.ExprText(x); again != s || e != api.OK || err != api.OK {
		t.Errorf("%q %q %v %v", s, again, err, e)
	}
}

// P5.19: whatever is read is written again.
func FuzzRead(f *testing.F) {
	f.Add(findText())
	f.Add("find a\nlimit 0\n")
	f.Fuzz(func(t *testing.T, s string) { checkRead(t, s) })
}

// P5.18: likewise for conditions.
func FuzzExprRead(f *testing.F) {
	for _, s := range []string{"and(some:pets(less(:age,3)),is:dog(:a))", "case(every:a(true),many:b(),-5)", "cast.3(up:x)", "'it''s'"} {
		f.Add(s)
	}
	f.Fuzz(func(t *testing.T, s string) { checkExprRead(t, s) })
}
