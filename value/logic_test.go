package value_test

import (
	"testing"

	"dumbwaiter/api"
	"dumbwaiter/value"
)

// P1.6
func TestLogic(t *testing.T) {
	no, yes := boolean(0), boolean(1)
	for _, x := range []struct{ a, b, and, or api.Value }{
		{no, no, no, no}, {no, yes, no, yes}, {yes, yes, yes, yes},
		{null, no, no, null}, {null, yes, null, yes}, {null, null, null, null},
	} {
		if value.And(x.a, x.b) != x.and || value.And(x.b, x.a) != x.and {
			t.Error("and", x, value.And(x.a, x.b), value.And(x.b, x.a))
		}
		if value.Or(x.a, x.b) != x.or || value.Or(x.b, x.a) != x.or {
			t.Error("or", x, value.Or(x.a, x.b), value.Or(x.b, x.a))
		}
	}
	if value.Not(no) != yes || value.Not(yes) != no || value.Not(null) != null {
		t.Error("not")
	}
}

// P1.6: what is no Bool counts as null.
func TestLogicOfOtherKinds(t *testing.T) {
	for _, v := range all() {
		if v == boolean(0) || v == boolean(1) {
			continue
		}
		if value.Not(v) != null {
			t.Error("not", v)
		}
		for _, w := range []api.Value{boolean(0), boolean(1), null, integer(1)} {
			if value.And(v, w) != value.And(null, w) || value.And(w, v) != value.And(w, null) {
				t.Error("and", v, w)
			}
			if value.Or(v, w) != value.Or(null, w) || value.Or(w, v) != value.Or(w, null) {
				t.Error("or", v, w)
			}
		}
	}
}

// P1.7
func TestEqualLessSame(t *testing.T) {
	for i, a := range ordered() {
		for k, b := range ordered() {
			equal, less := null, null
			if a != null && a.Kind == b.Kind {
				equal, less = value.Bool(i == k), value.Bool(i < k)
			}
			if value.Equal(a, b) != equal || value.Less(a, b) != less || value.Same(a, b) != value.Bool(i == k) {
				t.Error(a, b, value.Equal(a, b), value.Less(a, b), value.Same(a, b))
			}
		}
	}
}

// P1.7
func TestEqualLessSameOfWrongValues(t *testing.T) {
	for _, a := range wrong() {
		if value.Equal(a, a) != null || value.Less(a, boolean(1)) != null || value.Less(boolean(0), a) != null {
			t.Error(a)
		}
		if value.Same(a, null) != boolean(1) || value.Same(a, wrong()[0]) != boolean(1) || value.Same(a, boolean(0)) != boolean(0) {
			t.Error("same", a)
		}
	}
}

// P1.13: the value of an XIn.
func TestIn(t *testing.T) {
	for _, x := range []struct {
		a    api.Value
		l    []api.Value
		want api.Value
	}{
		{integer(1), nil, boolean(0)},
		{null, nil, boolean(0)},
		{integer(1), []api.Value{integer(2), integer(3)}, boolean(0)},
		{integer(1), []api.Value{integer(2), integer(1)}, boolean(1)},
		{integer(1), []api.Value{null, integer(1), null}, boolean(1)},
		{integer(1), []api.Value{integer(2), null}, null},
		{integer(1), []api.Value{null, integer(2)}, null},
		{null, []api.Value{integer(1)}, null},
		{null, []api.Value{null}, null},
		{integer(1), []api.Value{text("1")}, null},
		{integer(1), []api.Value{{Kind: api.Int, N: 1, S: "a"}}, null},
	} {
		if got := value.In(x.a, x.l); got != x.want {
			t.Error(x, got)
		}
	}
}
