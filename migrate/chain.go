package migrate

import (
	"slices"

	"dumbwaiter/api"
	"dumbwaiter/clone"
	"dumbwaiter/same"
	"dumbwaiter/schema"
)

// CheckChain says whether a chain leads from a schema and back.
func CheckChain(s api.Schema, l []api.Migration) api.Errno {
	if err := schema.CheckSchema(s); err != api.OK {
		return err
	}
	if len(l) > api.MaxMigrations {
		return api.ErrLarge
	}
	before := 0
	for _, m := range l {
		if err := checkNext(m, before); err != api.OK {
			return err
		}
		after, err := Apply(s, m.Up)
		if err != api.OK {
			return err
		}
		back, err := Apply(after, m.Down)
		switch {
		case err != api.OK:
			return err
		case !same.Schema(back, s):
			return api.ErrForm
		}
		s, before = after, m.Number
	}
	return api.OK
}

// checkNext checks a migration that stands behind one with a number, as far as no schema matters.
func checkNext(m api.Migration, before int) api.Errno {
	_, err := Text(m)
	if err == api.OK && m.Number <= before {
		return api.ErrOrder
	}
	return err
}

// Join returns a chain in which some migrations are one.
func Join(s api.Schema, l []api.Migration, from, to int, name string) ([]api.Migration, api.Errno) {
	if err := CheckChain(s, l); err != api.OK {
		return nil, err
	}
	first, last := migrationPlace(l, from), migrationPlace(l, to)
	if first < 0 || last < 0 || from > to {
		return nil, api.ErrNone
	}
	for _, m := range l[:first] {
		s, _ = Apply(s, m.Up)
	}
	one, err := joined(s, l[first:last+1])
	one.Name = name
	if err == api.OK {
		_, err = Text(one)
	}
	if err != api.OK {
		return nil, err
	}
	var chain []api.Migration
	for _, m := range slices.Concat(l[:first], []api.Migration{one}, l[last+1:]) {
		m.Up, m.Down = clone.Changes(m.Up), clone.Changes(m.Down)
		chain = append(chain, m)
	}
	return chain, api.OK
}

// migrationPlace returns the place of the migration with a number, -1 if there is none.
func migrationPlace(l []api.Migration, number int) int {
	return slices.IndexFunc(l, func(m api.Migration) bool { return m.Number == number })
}

// joined returns the migration, still without a name, that is some migrations of a chain, one after another. Ahead of them there is a schema.
func joined(s api.Schema, l []api.Migration) (api.Migration, api.Errno) {
	one := api.Migration{}
	for _, m := range l {
		one.Number = m.Number
		one.Up = slices.Concat(one.Up, m.Up)
		one.Down = slices.Concat(m.Down, one.Down)
	}
	after, err := Apply(s, one.Up)
	if err == api.OK {
		one.Up, err = Squash(s, one.Up)
	}
	if err == api.OK {
		one.Down, err = Squash(after, one.Down)
	}
	return one, err
}
