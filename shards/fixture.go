package shards

import (
	"slices"
	"strconv"

	"dumbwaiter/api"
	"dumbwaiter/listing"
	"dumbwaiter/value"
)

// FixtureText writes fixtures.
func FixtureText(l []api.Fixture) (string, api.Errno) {
	if err := checkMany(l); err != api.OK {
		return "", err
	}
	return fixtureText(l)
}

// checkMany checks how many fixtures there are.
func checkMany(l []api.Fixture) api.Errno {
	if len(l) > api.MaxObjects {
		return api.ErrLarge
	}
	return api.OK
}

// fixtureText writes any number of fixtures.
func fixtureText(l []api.Fixture) (string, api.Errno) {
	var w listing.Writer
	for _, f := range l {
		if err := checkFixture(f); err != api.OK {
			return "", err
		}
		w.Line(listing.Words{"object", f.Label, f.Entity}.When(f.Tenant != 0, strconv.Itoa(f.Tenant))...)
		for _, v := range f.Values {
			w.Line("value", v.Slot, value.Show(v.Value))
		}
		for _, o := range f.Ones {
			w.Line("one", o.Relation, o.Label)
		}
	}
	return w.Text()
}

// checkFixture says whether a fixture has a text.
func checkFixture(f api.Fixture) api.Errno {
	words := []string{f.Label, f.Entity}
	for _, v := range f.Values {
		words = append(words, v.Slot)
	}
	for _, o := range f.Ones {
		words = append(words, o.Relation, o.Label)
	}
	isWord := func(s string) bool { return len(s) <= api.MaxTall && listing.Consists(s, "_.") }
	isWrong := func(v api.FixtureValue) bool {
		return v.Value != (api.Value{}) && value.Check(v.Value.Kind, v.Value) != api.OK
	}
	switch {
	case slices.ContainsFunc(words, func(s string) bool { return !isWord(s) }):
		return api.ErrName
	case f.Tenant < 0 || f.Tenant > api.MaxInt:
		return api.ErrArg
	case slices.ContainsFunc(f.Values, isWrong):
		return api.ErrForm
	}
	return api.OK
}

// FixtureRead returns the fixtures with a text.
func FixtureRead(s string) ([]api.Fixture, api.Errno) {
	return listing.Read(s, readFixtures, fixtureText, checkMany)
}

// readFixtures returns the fixtures that the lines of a text say.
func readFixtures(s string) ([]api.Fixture, bool) {
	lines, ok := listing.Lines(s)
	var l []api.Fixture
	for _, words := range lines {
		ok = ok && readFixture(&l, words)
	}
	return l, ok
}

// readFixture adds what a line says to fixtures.
func readFixture(l *[]api.Fixture, w listing.Words) bool {
	if w[0] == "object" && len(w) >= 3 && len(w) <= 4 {
		f := api.Fixture{Label: w[1], Entity: w[2]}
		if len(w) == 4 {
			v, err := value.Read(w[3])
			if err != api.OK || v.Kind != api.Int {
				return false
			}
			f.Tenant = v.N
		}
		*l = append(*l, f)
		return true
	}
	if len(w) != 3 || len(*l) == 0 {
		return false
	}
	f := &(*l)[len(*l)-1]
	switch w[0] {
	case "value":
		v, err := value.Read(w[2])
		f.Values = append(f.Values, api.FixtureValue{Slot: w[1], Value: v})
		return err == api.OK
	case "one":
		f.Ones = append(f.Ones, api.FixtureOne{Relation: w[1], Label: w[2]})
		return true
	}
	return false
}
