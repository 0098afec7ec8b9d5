package value

import (
	"dumbwaiter/api"
)

// isTrue reports whether a value is the Bool true.
func isTrue(v api.Value) bool { return v == Bool(true) }

// isFalse reports whether a value is the Bool false.
func isFalse(v api.Value) bool { return v == Bool(false) }

// Not is three-valued.
func Not(a api.Value) api.Value {
	if isTrue(a) || isFalse(a) {
		return Bool(isFalse(a))
	}
	return api.Value{}
}

// And is three-valued.
func And(a, b api.Value) api.Value {
	switch {
	case isFalse(a) || isFalse(b):
		return Bool(false)
	case isTrue(a) && isTrue(b):
		return Bool(true)
	}
	return api.Value{}
}

// Or is three-valued.
func Or(a, b api.Value) api.Value {
	switch {
	case isTrue(a) || isTrue(b):
		return Bool(true)
	case isFalse(a) && isFalse(b):
		return Bool(false)
	}
	return api.Value{}
}

// Equal is null for nulls and different kinds.
func Equal(a, b api.Value) api.Value {
	if !alike(a, b) {
		return api.Value{}
	}
	return Bool(Compare(a, b) == 0)
}

// Less is null for nulls and different kinds.
func Less(a, b api.Value) api.Value {
	if !alike(a, b) {
		return api.Value{}
	}
	return Bool(Compare(a, b) < 0)
}

// alike reports whether two values are of one kind, and not null.
func alike(a, b api.Value) bool {
	kind := clean(a).Kind
	return kind != api.Null && kind == clean(b).Kind
}

// Same says whether values are equal, or both null.
func Same(a, b api.Value) api.Value { return Bool(clean(a) == clean(b)) }

// In returns the value of an XIn with the values of its Args.
func In(a api.Value, l []api.Value) api.Value {
	result := Bool(false)
	for _, v := range l {
		result = Or(result, Equal(a, v))
	}
	return result
}
