package value

import (
	"strings"

	"dumbwaiter/api"
)

// Concat puts texts together.
func Concat(a, b api.Value) api.Value {
	a, b = clean(a), clean(b)
	if a.Kind != api.Text || b.Kind != api.Text {
		return api.Value{}
	}
	return text(a.S + b.S)
}

// Length is the number of bytes of a text.
func Length(a api.Value) api.Value {
	a = clean(a)
	if a.Kind != api.Text {
		return api.Value{}
	}
	return number(api.Int, len(a.S))
}

// Lower replaces capital letters.
func Lower(a api.Value) api.Value {
	a = clean(a)
	if a.Kind != api.Text {
		return api.Value{}
	}
	return text(strings.ToLower(a.S))
}

// Upper replaces small letters.
func Upper(a api.Value) api.Value {
	a = clean(a)
	if a.Kind != api.Text {
		return api.Value{}
	}
	return text(strings.ToUpper(a.S))
}

// Part returns a part of a text.
func Part(a, from, count api.Value) api.Value {
	a = clean(a)
	first, size, ok := numbers(from, api.Int, count, api.Int)
	if a.Kind != api.Text || !ok || first < 0 || size < 0 {
		return api.Value{}
	}
	start := min(first, len(a.S))
	return text(a.S[start:min(start+size, len(a.S))])
}
