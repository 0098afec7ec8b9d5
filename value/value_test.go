package value_test

import (
	"slices"
	"testing"

	"dumbwaiter/api"
	"dumbwaiter/value"
)

func TestBool(t *testing.T) {
	if value.Bool(true) != boolean(1) || value.Bool(false) != boolean(0) {
		t.Error(value.Bool(true), value.Bool(false))
	}
}

// P1.1
func TestCheckAcceptsRightValues(t *testing.T) {
	for _, v := range ordered() {
		for kind := api.Bool; kind <= api.Moment; kind++ {
			want := api.ErrType
			if v.Kind == kind || v == null {
				want = api.OK
			}
			if e := value.Check(kind, v); e != want {
				t.Error(kind, v, e)
			}
		}
	}
}

// P1.1
func TestCheckErrors(t *testing.T) {
	for _, x := range []struct {
		kind int
		v    api.Value
		want api.Errno
	}{
		{api.Bool, boolean(2), api.ErrArg},
		{api.Bool, boolean(-1), api.ErrArg},
		{api.Int, integer(api.MaxInt + 1), api.ErrArg},
		{api.Int, integer(-api.MaxInt - 1), api.ErrArg},
		{api.Int, integer(-1 << 63), api.ErrArg},
		{api.Moment, moment(-1), api.ErrArg},
		{api.Moment, moment(api.MaxMoment + 1), api.ErrArg},
		{api.Text, text("a\x1f"), api.ErrArg},
		{api.Text, text("\x7fa"), api.ErrArg},
		{api.Text, text("\x80"), api.ErrArg},
		{api.Text, text(long(101)), api.ErrLarge},
		{api.Int, api.Value{N: 1}, api.ErrForm},
		{api.Int, api.Value{S: "a"}, api.ErrForm},
		{api.Int, api.Value{Kind: -1}, api.ErrForm},
		{api.Int, api.Value{Kind: 5}, api.ErrForm},
		{api.Bool, api.Value{Kind: api.Bool, S: "a"}, api.ErrForm},
		{api.Int, api.Value{Kind: api.Int, S: "a"}, api.ErrForm},
		{api.Text, api.Value{Kind: api.Text, N: 1}, api.ErrForm},
		{api.Moment, api.Value{Kind: api.Moment, S: "a"}, api.ErrForm},
		{0, integer(1), api.ErrKind},
		{5, integer(1), api.ErrKind},
		{-1 << 63, null, api.ErrKind},
	} {
		if e := value.Check(x.kind, x.v); e != x.want {
			t.Error(x, e)
		}
	}
}

// P1.1: of several errors the first one of the list is returned.
func TestCheckOrderOfErrors(t *testing.T) {
	for _, x := range []struct {
		kind int
		v    api.Value
		want api.Errno
	}{
		{0, api.Value{Kind: 7}, api.ErrKind},
		{api.Int, api.Value{Kind: api.Text, N: 1, S: long(101)}, api.ErrForm},
		{api.Int, text(long(101) + "\n"), api.ErrType},
		{api.Text, text(long(101) + "\n"), api.ErrLarge},
		{api.Text, integer(api.MaxInt + 1), api.ErrType},
	} {
		if e := value.Check(x.kind, x.v); e != x.want {
			t.Error(x, e)
		}
	}
}

// P1.2
func TestCompare(t *testing.T) {
	l := ordered()
	for i, a := range l {
		for k, b := range l {
			if got, want := value.Compare(a, b), sign(i-k); got != want {
				t.Error(a, b, got)
			}
		}
	}
	for _, a := range wrong() {
		if value.Compare(a, null) != 0 || value.Compare(boolean(0), a) != 1 || value.Compare(a, boolean(0)) != -1 {
			t.Error("counts as null", a)
		}
	}
}

// P1.2
func TestCompareLists(t *testing.T) {
	l := lists()
	for i, a := range l {
		for k, b := range l {
			if got, want := value.CompareLists(a, b), sign(i-k); got != want {
				t.Error(a, b, got)
			}
		}
	}
	if value.CompareLists(nil, []api.Value{}) != 0 {
		t.Error("empty and nil")
	}
	for _, v := range wrong() {
		if value.CompareLists([]api.Value{v, integer(1)}, []api.Value{null, integer(1)}) != 0 {
			t.Error("counts as null", v)
		}
	}
}

// lists are lists in the order of CompareLists.
func lists() [][]api.Value {
	one := ordered()
	l := [][]api.Value{nil}
	for _, a := range one {
		l = append(l, []api.Value{a})
		for _, b := range one {
			l = append(l, []api.Value{a, b})
			if b == integer(1) {
				l = append(l, []api.Value{a, b, null}, []api.Value{a, b, null, null}, []api.Value{a, b, text("a")})
			}
		}
	}
	return slices.Clip(l)
}

func sign(n int) int {
	switch {
	case n < 0:
		return -1
	case n > 0:
		return 1
	}
	return 0
}
