package value

import (
	"dumbwaiter/api"
)

// Can says whether there is a cast.
func Can(from, to int) bool {
	if !isKind(from) || !isKind(to) {
		return false
	}
	return !(from == api.Bool && to == api.Moment) && !(from == api.Moment && to == api.Bool)
}

// Cast returns a value of a kind.
func Cast(a api.Value, kind int) api.Value {
	a = clean(a)
	switch {
	case !Can(a.Kind, kind):
		return api.Value{}
	case a.Kind == kind:
		return a
	case kind == api.Text:
		return text(showCast(a))
	case a.Kind == api.Text:
		return readCast(a.S, kind)
	case kind == api.Bool:
		return Bool(a.N != 0)
	}
	return number(kind, a.N)
}

// showCast returns the text of a Bool, an Int or a Moment.
func showCast(a api.Value) string {
	if a.Kind == api.Moment {
		return showMoment(a.N)
	}
	return Show(a)
}

// readCast returns the Bool, the Int or the Moment with a text, null if there is none.
func readCast(s string, kind int) api.Value {
	if kind == api.Moment {
		s = "@" + s
	}
	v, e := Read(s)
	if e != api.OK || v.Kind != kind {
		return api.Value{}
	}
	return v
}
