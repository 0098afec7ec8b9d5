package shards_test

import (
	"strings"
	"testing"

	"dumbwaiter/api"
	"dumbwaiter/shards"
)

// fixtures are fixtures with everything that texts can have.
func fixtures() []api.Fixture {
	return []api.Fixture{
		{Label: "a", Entity: "pet", Values: []api.FixtureValue{{Slot: "name", Value: text("it's  a 'pet'")}, {Slot: "home.city", Value: null}, {Slot: "age", Value: integer(-5)}, {Slot: "good", Value: api.Value{Kind: api.Bool, N: 1}}, {Slot: "seen", Value: moment(1794906300)}}, Ones: []api.FixtureOne{{Relation: "owner", Label: "b_1.x"}, {Relation: "_", Label: "."}}},
		{Label: "b_1.x", Entity: "7", Tenant: api.MaxInt},
		{Label: long(api.MaxTall), Entity: long(api.MaxTall), Tenant: 1, Values: []api.FixtureValue{{Slot: long(api.MaxTall), Value: text("")}}, Ones: []api.FixtureOne{{Relation: long(api.MaxTall), Label: long(api.MaxTall)}}},
	}
}

// fixtureLines are their text.
func fixtureLines() string {
	x := long(api.MaxTall)
	return lines("object a pet", "value name 'it''s  a ''pet'''", "value home.city null", "value age -5", "value good true", "value seen @2026-11-17T09:05:00", "one owner b_1.x", "one _ .",
		"object b_1.x 7 999999999999999", "object "+x+" "+x+" 1", "value "+x+" ''", "one "+x+" "+x)
}

// P9.13: everything that texts can have.
func TestFixtureText(t *testing.T) {
	s, err := shards.FixtureText(fixtures())
	must(t, err)
	expect(t, s, fixtureLines())
	l, err := shards.FixtureRead(s)
	must(t, err)
	expect(t, l, fixtures())
	s, err = shards.FixtureText(nil)
	must(t, err)
	expect(t, s, "")
	l, err = shards.FixtureRead("")
	must(t, err)
	expect(t, len(l), 0)
}

// P9.13: errors of FixtureText, in their order.
func TestFixtureTextErrors(t *testing.T) {
	write := func(l []api.Fixture) api.Errno {
		s, err := shards.FixtureText(l)
		if err != api.OK && s != "" {
			t.Error(s)
		}
		return err
	}
	type fixed = []api.Fixture
	for _, bad := range []string{"", "A", "a b", "é", "-", "'", "\n", long(api.MaxTall + 1)} {
		tryFaults(t, fixtures(), write, []fault[fixed]{
			{"many", func(l *fixed) { *l = append(*l, make(fixed, api.MaxObjects)...) }, api.ErrLarge},
			{"entity", func(l *fixed) { (*l)[0].Entity = bad }, api.ErrName},
			{"slot", func(l *fixed) { (*l)[0].Values[4].Slot = bad }, api.ErrName},
			{"relation", func(l *fixed) { (*l)[0].Ones[0].Relation = bad }, api.ErrName},
			{"target", func(l *fixed) { (*l)[0].Ones[1].Label = bad }, api.ErrName},
			{"tenant 0", func(l *fixed) { (*l)[0].Tenant = -1 }, api.ErrArg},
			{"tenant 0", func(l *fixed) { (*l)[0].Tenant = api.MaxInt + 1 }, api.ErrArg},
			{"value 0", func(l *fixed) { (*l)[0].Values[0].Value = api.Value{Kind: 9} }, api.ErrForm},
			{"value 0", func(l *fixed) { (*l)[0].Values[0].Value = api.Value{N: 1} }, api.ErrForm},
			{"value 0", func(l *fixed) { (*l)[0].Values[3].Value.S = "x" }, api.ErrForm},
			{"value 0", func(l *fixed) { (*l)[0].Values[3].Value.N = 2 }, api.ErrForm},
			{"value 0", func(l *fixed) { (*l)[0].Values[0].Value = text(long(api.MaxText + 1)) }, api.ErrForm},
			{"value 0", func(l *fixed) { (*l)[0].Values[0].Value = text("\n") }, api.ErrForm},
			{"label 1", func(l *fixed) { (*l)[1].Label = bad }, api.ErrName},
			{"tenant 1", func(l *fixed) { (*l)[1].Tenant = -1 }, api.ErrArg},
			{"value 2", func(l *fixed) { (*l)[2].Values[0].Value.Kind = -1 }, api.ErrForm},
			{"text", func(l *fixed) {
				for range 700 {
					*l = append(*l, fixtures()[2])
				}
			}, api.ErrLarge},
		})
	}
}

// few are fixtures whose texts are short.
func few(count int) []api.Fixture {
	var l []api.Fixture
	for range count {
		l = append(l, api.Fixture{Label: "a", Entity: "b"})
	}
	return l
}

// P9.13: the bounds of texts.
func TestFixtureBounds(t *testing.T) {
	s, err := shards.FixtureText(few(api.MaxObjects))
	must(t, err)
	l, err := shards.FixtureRead(s)
	must(t, err)
	expect(t, len(l), api.MaxObjects)
	_, err = shards.FixtureText(few(api.MaxObjects + 1))
	want(t, err, api.ErrLarge)
	l, err = shards.FixtureRead(s + "object a b\n")
	want(t, err, api.ErrLarge)
	expect(t, len(l), 0)
	_, err = shards.FixtureRead(s + "object a b\nx")
	want(t, err, api.ErrSyntax)
	// A text of MaxListing bytes, and one more.
	wide := api.Fixture{Label: "a", Entity: "b"}
	for range 1000 {
		wide.Values = append(wide.Values, api.FixtureValue{Slot: "s", Value: text(long(54))}) // 65 bytes
	}
	wide.Values = append(wide.Values, api.FixtureValue{Slot: "s", Value: text(long(100))}, api.FixtureValue{Slot: "s", Value: text(long(100))}, api.FixtureValue{Slot: "s", Value: text(long(100))})
	size := func() int { s, _ := shards.FixtureText([]api.Fixture{wide}); return len(s) }
	for size() < api.MaxListing-200 {
		wide.Values = append(wide.Values, api.FixtureValue{Slot: "s", Value: text(long(90))})
	}
	rest := api.MaxListing - size()
	wide.Values = append(wide.Values, api.FixtureValue{Slot: "s", Value: text(long(rest/2 - 11))}, api.FixtureValue{Slot: "s", Value: text(long(rest - rest/2 - 11))})
	s, err = shards.FixtureText([]api.Fixture{wide})
	must(t, err)
	expect(t, len(s), api.MaxListing)
	_, err = shards.FixtureRead(s)
	must(t, err)
	wide.Values[0].Value.S += "x"
	_, err = shards.FixtureText([]api.Fixture{wide})
	want(t, err, api.ErrLarge)
	_, err = shards.FixtureRead(s + "x")
	want(t, err, api.ErrLarge)
	_, err = shards.FixtureRead(s[1:])
	want(t, err, api.ErrSyntax)
}

// P9.13: texts that are none of fixtures.
func TestFixtureSyntax(t *testing.T) {
	for _, s := range []string{
		"\n", "object a b", "object a\n", "object a b c\n", "object a b 0\n", "object a b -1\n", "object a b 01\n", "object a b 1 2\n", "object a b 1000000000000000\n", "object a b 'x'\n", "object a b null\n", "object a b true\n",
		"object  a b\n", "object a b \n", " object a b\n", "Object a b\n", "object A b\n", "object a B\n", "object '' b\n", "object " + long(41) + " b\n", "object a " + long(41) + "\n", "object a b\n\n", "object a b\r\n",
		"value x 1\n", "one a b\n", "object a b\nvalue x\n", "object a b\nvalue x y\n", "object a b\nvalue x 1 2\n", "object a b\nvalue x 01\n", "object a b\nvalue x 'a\n", "object a b\nvalue X 1\n", "object a b\nvalue x '\x01'\n", "object a b\nvalue x '" + long(101) + "'\n",
		"object a b\none x\n", "object a b\none x y z\n", "object a b\none x 'y'\n", "object a b\none x y\nvalue x 1\n", "object a b\nvalues x 1\n", "object a b\nvalue x @2026-02-30T00:00:00\n", "object a b\nobject\n", "object a b\none\n", "object a b\nvalue\n",
	} {
		l, err := shards.FixtureRead(s)
		if err != api.ErrSyntax || l != nil {
			t.Errorf("%q %v", s, err)
		}
	}
}

// checkFixtures checks that a text is of no fixtures, or that of those that are read.
func checkFixtures(t testing.TB, s string) bool {
	t.Helper()
	l, err := shards.FixtureRead(s)
	if err != api.OK {
		if l != nil || err != api.ErrSyntax && err != api.ErrLarge {
			t.Errorf("%q %v %v", s, l, err)
		}
		return false
	}
	if again, err := shards.FixtureText(l); again != s || err != api.OK {
		t.Errorf("%q %q %v", s, again, err)
	}
	return true
}

// spoilt is a text with a byte left out, doubled or exchanged, or a line left out or doubled.
func (r *maker) spoilt(s string) string {
	l := strings.SplitAfter(s, "\n")
	i, k := r.Intn(len(s)), r.Intn(len(l))
	switch r.Intn(5) {
	case 0:
		return s[:i] + s[i+1:]
	case 1:
		return s[:i] + s[i:i+1] + s[i:]
	case 2:
		return s[:i] + pick(r, " ", "'", "a", "0", "1", "_", ".", "-", "\n", "A", "n") + s[i+1:]
	case 3:
		return strings.Join(append(l[:k:k], l[k+1:]...), "")
	}
	return strings.Join(append(l[:k+1:k+1], l[k:]...), "")
}

// P9.13, Z6: spoilt texts are either of none, or the text of what was read.
func TestFixtureSpoilt(t *testing.T) {
	good := 0
	randomly(t, 5, func(t *testing.T, r *maker) {
		for range 1000 {
			if checkFixtures(t, r.spoilt(fixtureLines())) {
				good++
			}
		}
	})
	if good < 100 || good > 4000 {
		t.Error(good)
	}
}

func FuzzFixtureRead(f *testing.F) {
	f.Add(fixtureLines())
	f.Add("object a b\n")
	f.Fuzz(func(t *testing.T, s string) { checkFixtures(t, s) })
}
