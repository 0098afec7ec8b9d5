// Package value has the operations on values.
package value

import (
	"cmp"
	"strings"

	"dumbwaiter/api"
)

// Bool returns a Bool.
func Bool(b bool) api.Value {
	if b {
		return api.Value{Kind: api.Bool, N: 1}
	}
	return api.Value{Kind: api.Bool}
}

// Check says whether a value is right, and null or of a kind.
func Check(kind int, v api.Value) api.Errno {
	switch {
	case !isKind(kind):
		return api.ErrKind
	case !formed(v):
		return api.ErrForm
	case v.Kind == api.Null:
		return api.OK
	case v.Kind != kind:
		return api.ErrType
	case len(v.S) > api.MaxText:
		return api.ErrLarge
	case !inRange(v):
		return api.ErrArg
	}
	return api.OK
}

// Compare compares values.
func Compare(a, b api.Value) int {
	a, b = clean(a), clean(b)
	if a.Kind != b.Kind {
		return cmp.Compare(a.Kind, b.Kind)
	}
	if a.Kind == api.Text {
		return strings.Compare(a.S, b.S)
	}
	return cmp.Compare(a.N, b.N)
}

// CompareLists compares lists of values.
func CompareLists(a, b []api.Value) int {
	for i := range min(len(a), len(b)) {
		if c := Compare(a[i], b[i]); c != 0 {
			return c
		}
	}
	return cmp.Compare(len(a), len(b))
}

// isKind reports whether values other than null can be of a kind.
func isKind(kind int) bool { return kind >= api.Bool && kind <= api.Moment }

// formed reports whether the fields that the Kind does not use are zero.
func formed(v api.Value) bool {
	switch v.Kind {
	case api.Null:
		return v.N == 0 && v.S == ""
	case api.Bool, api.Int, api.Moment:
		return v.S == ""
	case api.Text:
		return v.N == 0
	}
	return false
}

// inRange reports whether N, or each byte of S, is in the range of the Kind.
func inRange(v api.Value) bool {
	switch v.Kind {
	case api.Bool:
		return v.N == 0 || v.N == 1
	case api.Int:
		return v.N >= -api.MaxInt && v.N <= api.MaxInt
	case api.Moment:
		return v.N >= 0 && v.N <= api.MaxMoment
	}
	for i := range len(v.S) {
		if v.S[i] < 32 || v.S[i] > 126 {
			return false
		}
	}
	return true
}

// clean returns the value itself if it is right, otherwise null: every operation takes its arguments through it.
func clean(v api.Value) api.Value {
	if formed(v) && len(v.S) <= api.MaxText && inRange(v) {
		return v
	}
	return api.Value{}
}

// number returns the value of a kind with a number, null if it is out of range.
func number(kind, n int) api.Value { return clean(api.Value{Kind: kind, N: n}) }

// text returns a Text, null if it is too long.
func text(s string) api.Value { return clean(api.Value{Kind: api.Text, S: s}) }

// numbers returns the numbers of two right values, if they are of these kinds.
func numbers(a api.Value, kindA int, b api.Value, kindB int) (int, int, bool) {
	a, b = clean(a), clean(b)
	if a.Kind != kindA || b.Kind != kindB {
		return 0, 0, false
	}
	return a.N, b.N, true
}
