package value_test

import (
	"strings"
	"testing"

	"dumbwaiter/api"
	"dumbwaiter/value"
)

// P1.5
func TestShowAndRead(t *testing.T) {
	for _, x := range []struct {
		v    api.Value
		want string
	}{
		{null, "null"}, {boolean(0), "false"}, {boolean(1), "true"},
		{integer(0), "0"}, {integer(-12), "-12"}, {integer(api.MaxInt), "999999999999999"}, {integer(-api.MaxInt), "-999999999999999"},
		{text(""), "''"}, {text("'"), "''''"}, {text("''"), "''''''"}, {text("it's"), "'it''s'"}, {text("null"), "'null'"}, {text("\\"), "'\\'"},
		{text(strings.Repeat("'", 100)), strings.Repeat("'", 202)},
		{moment(0), "@1970-01-01T00:00:00"}, {moment(59), "@1970-01-01T00:00:59"}, {moment(3599), "@1970-01-01T00:59:59"},
		{moment(1794906300), "@2026-11-17T09:05:00"}, {moment(api.MaxMoment), "@9999-12-31T23:59:59"},
	} {
		if got := value.Show(x.v); got != x.want {
			t.Error(x, got)
		}
		if got, e := value.Read(x.want); e != api.OK || got != x.v {
			t.Error(x, got, e)
		}
	}
	for _, v := range ordered() {
		if got, e := value.Read(value.Show(v)); e != api.OK || got != v {
			t.Error(v, got, e)
		}
	}
	for _, v := range wrong() {
		if got := value.Show(v); got != "null" {
			t.Error("counts as null", v, got)
		}
	}
}

// P1.5
func TestReadErrors(t *testing.T) {
	for _, s := range []string{
		"", " ", "nul", "null ", " null", "Null", "NULL", "nullnull", "True", "tru", "false\n", "1 ",
		"-", "+1", "-0", "00", "01", "-01", "1.0", "1e3", "0x1", "1_0", "1000000000000000", "-1000000000000000", "99999999999999999999",
		"'", "'''", "'''''", "'a", "a'", "'a'b'", "'a''", "'a' ", "'a\n'", "'é'", "'\x00'", "'" + long(101) + "'", "\"a\"",
		"@", "@1970-01-01", "@1970-01-01T00:00", "@1970-01-01 00:00:00", "@1970-01-01t00:00:00", "@1970-1-01T00:00:00", "@1970-01-01T00:00:00Z", "1970-01-01T00:00:00",
		"@1969-12-31T23:59:59", "@1970-00-01T00:00:00", "@1970-13-01T00:00:00", "@1970-01-00T00:00:00", "@1970-02-29T00:00:00", "@1970-01-01T24:00:00", "@1970-01-01T00:60:00", "@1970-01-01T00:00:60",
		"@10000-01-01T00:00:00", "@1970/01/01T00:00:00", "@1970-01-01T00.00.00", "@197x-01-01T00:00:00", "@1970-xx-01T00:00:00", "@+970-01-01T00:00:00", "@1970-+1-01T00:00:00", "@1970-01-01T+0:00:00", "@1970-01-01T-0:00:00", "@1970-01-01T00:00:-0",
	} {
		if v, e := value.Read(s); e != api.ErrSyntax || v != null {
			t.Error(s, v, e)
		}
	}
}

// P1.5: Read accepts nothing but what Show writes.
func FuzzRead(f *testing.F) {
	for _, v := range ordered() {
		f.Add(value.Show(v))
	}
	f.Add("-0")
	f.Fuzz(func(t *testing.T, s string) {
		v, e := value.Read(s)
		if e == api.OK && (value.Show(v) != s || v != null && value.Check(v.Kind, v) != api.OK) {
			t.Error(s, v)
		}
		if e != api.OK && (e != api.ErrSyntax || v != null) {
			t.Error(s, v, e)
		}
	})
}
