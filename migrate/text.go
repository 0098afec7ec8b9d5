package migrate

import (
	"slices"
	"strconv"

	"dumbwaiter/api"
	"dumbwaiter/listing"
	"dumbwaiter/store"
	"dumbwaiter/value"
)

// Text writes a migration.
func Text(m api.Migration) (string, api.Errno) {
	switch {
	case m.Number < 1 || m.Number > api.MaxInt:
		return "", api.ErrArg
	case !listing.IsTall(m.Name):
		return "", api.ErrName
	case len(m.Up) > api.MaxChanges || len(m.Down) > api.MaxChanges:
		return "", api.ErrLarge
	}
	for _, l := range [][]api.Change{m.Up, m.Down} {
		for _, c := range l {
			if err := checkParts(c); err != api.OK {
				return "", err
			}
		}
	}
	var w listing.Writer
	w.Line("migration", strconv.Itoa(m.Number), m.Name)
	w.Line("up")
	writeChanges(&w, m.Up)
	w.Line("down")
	writeChanges(&w, m.Down)
	return w.Text()
}

// Sum returns the sum over the text of a migration.
func Sum(m api.Migration) (uint64, api.Errno) {
	text, err := Text(m)
	if err != api.OK {
		return 0, err
	}
	sum := uint64(14695981039346656037)
	for i := range len(text) {
		sum = (sum ^ uint64(text[i])) * 1099511628211
	}
	return sum, api.OK
}

// checkParts checks what the text of a change tells.
func checkParts(c api.Change) api.Errno {
	if err := checkUse(c); err != api.OK {
		return err
	}
	var names []string
	var kinds []int
	var values []api.Value
	for _, e := range mentions(&c) {
		switch {
		case e.name != nil:
			names = append(names, *e.name)
		case e.names != nil:
			names = append(names, *e.names...)
		case e.kind != nil:
			kinds = append(kinds, *e.kind)
		case e.value != nil:
			values = append(values, *e.value)
		case e.column != nil:
			names, kinds, values = append(names, e.column.Name), append(kinds, e.column.Kind), append(values, e.column.Default)
		}
	}
	switch {
	case slices.ContainsFunc(names, func(name string) bool { return !listing.IsTall(name) }):
		return api.ErrName
	case slices.ContainsFunc(kinds, func(kind int) bool { return kind < api.Bool || kind > api.Moment }):
		return api.ErrKind
	}
	for _, v := range values {
		if err := checkOwn(v); err != api.OK {
			return err
		}
	}
	return api.OK
}

// checkUse checks the kind of a change, and that all that it does not use is zero. The store says so ahead of everything else, but for ChCreate, where a table that is right must stand in the place of the own one.
func checkUse(c api.Change) api.Errno {
	if c.Kind == api.ChCreate {
		c.New = api.Table{Name: "t", Columns: []api.Column{{Name: "c", Kind: api.Int}}, Key: []string{"c"}}
	}
	if err := store.CheckChange(api.Schema{}, c); err == api.ErrKind || err == api.ErrForm {
		return err
	}
	return api.OK
}

// checkOwn checks a value for its own kind. A null is one of any kind.
func checkOwn(v api.Value) api.Errno {
	if isNull(v) {
		return value.Check(api.Int, v)
	}
	return value.Check(v.Kind, v)
}

// writeChanges writes the lines of changes.
func writeChanges(w *listing.Writer, l []api.Change) {
	for _, c := range l {
		words := listing.Words{wordOf(c)}
		for _, e := range entries(&c) {
			words = append(words, e.words()...)
		}
		w.Line(words...)
		if c.Kind == api.ChCreate {
			w.Table(c.New)
			w.Line("end")
		}
	}
}
