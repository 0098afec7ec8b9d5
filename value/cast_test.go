package value_test

import (
	"testing"

	"dumbwaiter/api"
	"dumbwaiter/value"
)

// P1.12
func TestCast(t *testing.T) {
	for _, x := range []struct {
		v    api.Value
		kind int
		want api.Value
	}{
		{boolean(0), api.Int, integer(0)}, {boolean(1), api.Int, integer(1)},
		{integer(0), api.Bool, boolean(0)}, {integer(1), api.Bool, boolean(1)}, {integer(-5), api.Bool, boolean(1)},
		{integer(0), api.Moment, moment(0)}, {integer(api.MaxMoment), api.Moment, moment(api.MaxMoment)}, {integer(api.MaxMoment + 1), api.Moment, null}, {integer(-1), api.Moment, null},
		{moment(0), api.Int, integer(0)}, {moment(api.MaxMoment), api.Int, integer(api.MaxMoment)},
		{boolean(0), api.Text, text("false")}, {boolean(1), api.Text, text("true")}, {integer(-5), api.Text, text("-5")}, {moment(61), api.Text, text("1970-01-01T00:01:01")},
		{text("true"), api.Bool, boolean(1)}, {text("false"), api.Bool, boolean(0)}, {text("True"), api.Bool, null}, {text("1"), api.Bool, null}, {text("'true'"), api.Bool, null}, {text("null"), api.Bool, null}, {text(""), api.Bool, null},
		{text("-5"), api.Int, integer(-5)}, {text("0"), api.Int, integer(0)}, {text("-0"), api.Int, null}, {text("05"), api.Int, null}, {text(" 5"), api.Int, null}, {text("5 "), api.Int, null}, {text("+5"), api.Int, null}, {text("true"), api.Int, null}, {text("1000000000000000"), api.Int, null}, {text("null"), api.Int, null}, {text("1970-01-01T00:01:01"), api.Int, null}, {text("@1970-01-01T00:01:01"), api.Int, null},
		{text("1970-01-01T00:01:01"), api.Moment, moment(61)}, {text("@1970-01-01T00:01:01"), api.Moment, null}, {text("1970-02-29T00:01:01"), api.Moment, null}, {text("61"), api.Moment, null}, {text(""), api.Moment, null},
		{boolean(1), api.Moment, null}, {moment(1), api.Bool, null},
	} {
		if got := value.Cast(x.v, x.kind); got != x.want {
			t.Error(x, got)
		}
	}
}

// P1.12
func TestCastOfAllKinds(t *testing.T) {
	for _, v := range all() {
		for kind := -1; kind <= 6; kind++ {
			got := value.Cast(v, kind)
			switch {
			case !isRight(v) || v == null || !value.Can(v.Kind, kind):
				if got != null {
					t.Error(v, kind, got)
				}
			case v.Kind == kind:
				if got != v {
					t.Error(v, kind, got)
				}
			case got != null && (got.Kind != kind || !isRight(got)):
				t.Error(v, kind, got)
			case got != null && !(v.Kind == api.Int && kind == api.Bool):
				if back := value.Cast(got, v.Kind); back != v {
					t.Error("back", v, kind, got, back)
				}
			}
		}
	}
}

// P1.12
func TestCan(t *testing.T) {
	for from := -2; from <= 6; from++ {
		for to := -2; to <= 6; to++ {
			want := from >= 1 && from <= 4 && to >= 1 && to <= 4
			if from == api.Bool && to == api.Moment || from == api.Moment && to == api.Bool {
				want = false
			}
			if got := value.Can(from, to); got != want {
				t.Error(from, to, got)
			}
		}
	}
}
