package value_test

import (
	"testing"

	"dumbwaiter/api"
	"dumbwaiter/value"
)

// printable is a Text of 95 bytes: each one once.
func printable() string {
	var b []byte
	for c := byte(32); c <= 126; c++ {
		b = append(b, c)
	}
	return string(b)
}

// P1.9
func TestTexts(t *testing.T) {
	for _, x := range []struct{ got, want api.Value }{
		{value.Concat(text("ab"), text("c")), text("abc")},
		{value.Concat(text(""), text("")), text("")},
		{value.Concat(text(long(60)), text(long(40))), text(long(100))},
		{value.Concat(text(long(60)), text(long(41))), null},
		{value.Concat(text(long(100)), text("")), text(long(100))},
		{value.Length(text("")), integer(0)},
		{value.Length(text(long(100))), integer(100)},
		{value.Lower(text(printable())), text(" !\"#$%&'()*+,-./0123456789:;<=>?@abcdefghijklmnopqrstuvwxyz[\\]^_`abcdefghijklmnopqrstuvwxyz{|}~")},
		{value.Upper(text(printable())), text(" !\"#$%&'()*+,-./0123456789:;<=>?@ABCDEFGHIJKLMNOPQRSTUVWXYZ[\\]^_`ABCDEFGHIJKLMNOPQRSTUVWXYZ{|}~")},
		{value.Lower(text("")), text("")},
	} {
		if x.got != x.want {
			t.Error(x)
		}
	}
}

// P1.9
func TestPart(t *testing.T) {
	for _, x := range []struct {
		from, count int
		want        api.Value
	}{
		{0, 5, text("hello")}, {0, 0, text("")}, {1, 3, text("ell")}, {3, 2, text("lo")}, {3, 3, text("lo")}, {4, api.MaxInt, text("o")}, {0, 6, text("hello")},
		{5, 1, text("")}, {6, 1, text("")}, {api.MaxInt, api.MaxInt, text("")}, {9, 0, text("")},
		{-1, 1, null}, {0, -1, null}, {-1, -1, null}, {9, -1, null}, {-api.MaxInt, 9, null},
	} {
		if got := value.Part(text("hello"), integer(x.from), integer(x.count)); got != x.want {
			t.Error(x, got)
		}
	}
}

// P1.9: all other kinds of arguments give null.
func TestTextsOfOtherKinds(t *testing.T) {
	for _, v := range all() {
		if isRight(v) && v.Kind == api.Text {
			continue
		}
		if value.Concat(v, text("a")) != null || value.Concat(text("a"), v) != null || value.Length(v) != null || value.Lower(v) != null || value.Upper(v) != null {
			t.Error(v)
		}
		if value.Part(v, integer(0), integer(1)) != null || value.Like(v, text("%")) != null || value.Like(text(""), v) != null {
			t.Error(v)
		}
		if isRight(v) && v.Kind == api.Int {
			continue
		}
		if value.Part(text("a"), v, integer(1)) != null || value.Part(text("a"), integer(0), v) != null {
			t.Error("part", v)
		}
	}
}

// P1.10
func TestLike(t *testing.T) {
	for _, x := range []struct {
		a, pattern string
		want       int
	}{
		{"", "", 1}, {"a", "", 0}, {"", "%", 1}, {"", "%%", 1}, {"", "_", 0}, {"a", "_", 1}, {"ab", "_", 0}, {"ab", "__", 1},
		{"abc", "a%", 1}, {"abc", "%c", 1}, {"abc", "%b", 0}, {"abc", "%b%", 1}, {"abc", "a%b", 0}, {"ac", "a%c", 1}, {"abcabd", "%ab_", 1}, {"abcabd", "%abc", 0},
		{"a_b", "a\\_%", 1}, {"axb", "a\\_%", 0}, {"a%", "a\\%", 1}, {"ab", "a\\%", 0}, {"\\", "\\\\", 1}, {"\\\\", "\\\\", 0}, {"a", "\\a", 1}, {"\\a", "\\a", 0},
		{"\\", "\\", 1}, {"a\\", "a\\", 1}, {"a", "a\\", 0}, {"x\\", "%\\", 1}, {"\\%", "\\\\\\%", 1}, {"\\x", "\\\\%", 1},
		{"A", "a", 0}, {"a.b", "a.b", 1}, {"axb", "a.b", 0}, {"a*", "a*", 1}, {"ab", "a*", 0}, {"[a]", "[a]", 1},
	} {
		if got := value.Like(text(x.a), text(x.pattern)); got != boolean(x.want) {
			t.Error(x, got)
		}
	}
}

// like is the definition of P1.10, read from the front.
func like(a, p string) bool {
	switch {
	case p == "":
		return a == ""
	case p[0] == '%':
		return like(a, p[1:]) || a != "" && like(a[1:], p)
	case a == "":
		return false
	case p[0] == '_':
		return like(a[1:], p[1:])
	case p[0] == '\\' && len(p) > 1:
		return a[0] == p[1] && like(a[1:], p[2:])
	}
	return a[0] == p[0] && like(a[1:], p[1:])
}

// words are all texts of some bytes that are not longer than a length.
func words(letters string, length int) []string {
	l := []string{""}
	for from := 0; length > 0; length-- {
		end := len(l)
		for _, w := range l[from:end] {
			for i := range len(letters) {
				l = append(l, w+letters[i:i+1])
			}
		}
		from = end
	}
	return l
}

// P1.10
func TestLikeOfAllShortTexts(t *testing.T) {
	for _, p := range words("ab%_\\", 5) {
		for _, a := range words("ab\\%", 4) {
			if got := value.Like(text(a), text(p)); got != value.Bool(like(a, p)) {
				t.Fatal(a, p, got)
			}
		}
	}
}

// P1.10, Z1: it ends soon for patterns with many ways to try.
func TestLikeOfLongPatterns(t *testing.T) {
	p := ""
	for range 33 {
		p += "%x_"
	}
	if value.Like(text(long(100)), text(p)) != boolean(1) || value.Like(text(long(100)), text(p+"y")) != boolean(0) || value.Like(text(long(65)), text(p)) != boolean(0) {
		t.Error(p)
	}
}
