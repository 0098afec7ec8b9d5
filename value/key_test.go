package value_test

import (
	"bytes"
	"hash/fnv"
	"slices"
	"testing"

	"dumbwaiter/api"
	"dumbwaiter/value"
)

// P1.3
func TestKeyBytes(t *testing.T) {
	for _, x := range []struct {
		l    []api.Value
		want []byte
	}{
		{nil, nil},
		{[]api.Value{null}, []byte{0}},
		{[]api.Value{boolean(1)}, []byte{1, 0x40, 0, 0, 0, 0, 0, 0, 1}},
		{[]api.Value{integer(-1)}, []byte{2, 0x3f, 0xff, 0xff, 0xff, 0xff, 0xff, 0xff, 0xff}},
		{[]api.Value{integer(api.MaxInt)}, []byte{2, 0x40, 0x03, 0x8d, 0x7e, 0xa4, 0xc6, 0x7f, 0xff}},
		{[]api.Value{text("ab"), text("")}, []byte{3, 'a', 'b', 0, 3, 0}},
		{[]api.Value{moment(258), null}, []byte{4, 0x40, 0, 0, 0, 0, 0, 1, 2, 0}},
	} {
		if got := value.Key(x.l); !bytes.Equal(got, x.want) {
			t.Error(x, got)
		}
	}
	for _, v := range wrong() {
		if got := value.Key([]api.Value{v, v}); !bytes.Equal(got, []byte{0, 0}) {
			t.Error("counts as null", v, got)
		}
	}
}

// P1.3
func TestKeyOrder(t *testing.T) {
	l := lists()
	for i, a := range l {
		for k, b := range l {
			if got := bytes.Compare(value.Key(a), value.Key(b)); got != sign(i-k) {
				t.Error(a, b, got)
			}
		}
	}
}

// P1.3
func TestFromKey(t *testing.T) {
	for _, l := range lists() {
		got, e := value.FromKey(value.Key(l))
		if e != api.OK || !slices.Equal(got, l) {
			t.Error(l, got, e)
		}
	}
}

// P1.3
func TestFromKeyErrors(t *testing.T) {
	tooLong := append(append([]byte{3}, long(101)...), 0)
	for _, x := range []struct {
		b    []byte
		want api.Errno
	}{
		{[]byte{5}, api.ErrKind},
		{[]byte{255, 0}, api.ErrKind},
		{[]byte{0, 0, 9}, api.ErrKind},
		{[]byte{3}, api.ErrShort},
		{[]byte{3, 'a'}, api.ErrShort},
		{[]byte{3, '\n'}, api.ErrShort},
		{[]byte{1}, api.ErrShort},
		{[]byte{2, 255, 255, 255, 255, 255, 255, 255}, api.ErrShort},
		{[]byte{4, 0x40, 0, 0, 0, 0, 0, 0}, api.ErrShort},
		{[]byte{1, 0x40, 0, 0, 0, 0, 0, 0, 2}, api.ErrArg},
		{[]byte{2, 0x40, 0x03, 0x8d, 0x7e, 0xa4, 0xc6, 0x80, 0}, api.ErrArg},
		{[]byte{2, 0, 0, 0, 0, 0, 0, 0, 0}, api.ErrArg},
		{[]byte{2, 255, 255, 255, 255, 255, 255, 255, 255}, api.ErrArg},
		{[]byte{2, 0xc0, 0, 0, 0, 0, 0, 0, 0}, api.ErrArg},
		{[]byte{4, 0x3f, 255, 255, 255, 255, 255, 255, 255}, api.ErrArg},
		{[]byte{3, '\n', 0}, api.ErrArg},
		{[]byte{3, 200, 0}, api.ErrArg},
		{tooLong, api.ErrArg},
		// The first value with an error counts.
		{[]byte{3, '\n', 0, 9}, api.ErrArg},
		{[]byte{9, 3}, api.ErrKind},
		{[]byte{1, 0x40, 0, 0, 0, 0, 0, 0, 2, 3}, api.ErrArg},
	} {
		if l, e := value.FromKey(x.b); e != x.want || len(l) != 0 {
			t.Error(x, l, e)
		}
	}
	if l, e := value.FromKey(nil); e != api.OK || len(l) != 0 {
		t.Error(l, e)
	}
}

// P1.3: what FromKey accepts is a key.
func FuzzFromKey(f *testing.F) {
	for _, l := range lists()[:200] {
		f.Add(value.Key(l))
	}
	f.Add([]byte{2, 255, 255, 255, 255, 255, 255, 255, 255, 3})
	f.Fuzz(func(t *testing.T, b []byte) {
		l, e := value.FromKey(b)
		if e == api.OK && !bytes.Equal(value.Key(l), b) {
			t.Error(b, l)
		}
		if e != api.OK && len(l) != 0 {
			t.Error(b, l, e)
		}
	})
}

// P1.4
func TestHash(t *testing.T) {
	for _, l := range append(lists(), wrong()) {
		h := fnv.New64a()
		h.Write(value.Key(l))
		if got := value.Hash(l); got != h.Sum64() {
			t.Error(l, got)
		}
	}
	if got := value.Hash(nil); got != 14695981039346656037 {
		t.Error(got)
	}
}
