package sql_test

import (
	"math/rand"
	"strings"
	"testing"

	"dumbwaiter/api"
	"dumbwaiter/sql"
)

// P4.9, P4.10: what was printed in any dialect is parsed to a statement with the same text, rows and effect.
func TestTextsAtRandom(t *testing.T) {
	s := shop(t)
	native := map[int]int{}
	for seed := range 6000 {
		st, d, params := made(s, seed)
		dialect := 1 + seed%3
		text, err := sql.Print(s, st, dialect)
		if err != api.OK {
			t.Fatal(seed, err)
		}
		back, err := sql.Parse(s, text, dialect, st.Params)
		if err == api.ErrState && dialect != api.DialectPlain && strings.Contains(text, "is null) is null)") {
			continue // see TestDistinctNulls
		}
		if err != api.OK {
			t.Fatal(seed, err, text)
		}
		if again, err := sql.Print(s, back, dialect); err != api.OK || again != text {
			t.Fatal(seed, err, text, again)
		}
		equal := sql.Equal(st, back)
		if equal != same(st, back) || dialect == api.DialectPlain && !equal {
			t.Fatal(seed, text)
		}
		if got, err := sql.Native(s, st, dialect); err != api.OK || got != equal {
			t.Fatal(seed, got, err)
		}
		if got, err := sql.Native(s, back, dialect); err != api.OK || !got {
			t.Fatal(seed, got, err)
		}
		if !equal {
			native[dialect]++
		}
		sameMeaning(t, seed, d, st, back, params)
	}
	if native[api.DialectTick] < 100 || native[api.DialectBracket] < 100 {
		t.Error(native)
	}
}

// sameMeaning checks that two statements have the same rows or effect.
func sameMeaning(t *testing.T, seed int, d api.Data, a, b api.Statement, params []api.Value) {
	t.Helper()
	s := shop(t)
	if a.Kind == api.StSelect {
		x, err := sql.Answer(s, d, a, params)
		y, other := sql.Answer(s, d, b, params)
		if err != other || !same(x, y) {
			t.Error(seed, err, other, x, y)
		}
		return
	}
	x, count, err := sql.Effect(s, d, a, params)
	y, again, other := sql.Effect(s, d, b, params)
	if err != other || count != again || !same(x, y) {
		t.Error(seed, err, other, x, y)
	}
}

// spoilt is a text with a small change.
func spoilt(r *rand.Rand, text string) string {
	pieces := []string{" ", "(", ")", ", ", "'", `\`, "1", "0", "-", "null", " desc", " nulls last", "select ", " from ", " as ", "x", "_", "a", ".", `"`, "`", "[", "]", "#", ":", "?", "@", " and ", "distinct ", "%", "A", " limit 1", " offset 0", "\n", "é"}
	piece := pieces[r.Intn(len(pieces))]
	i := r.Intn(len(text) + 1)
	k := min(i+r.Intn(3), len(text))
	switch r.Intn(3) {
	case 0:
		return text[:i] + piece + text[i:]
	case 1:
		return text[:i] + piece + text[k:]
	}
	return text[:i] + text[k:]
}

// P4.10: a text that is read, whether Check accepts the statement or not, is the one that is written of the statement.
func TestSpoiltTexts(t *testing.T) {
	s := shop(t)
	right, wrong := 0, 0
	for seed := range 12000 {
		r := rand.New(rand.NewSource(int64(seed)))
		st, _, _ := made(s, seed%600)
		dialect := 1 + seed/600%3
		text, _ := sql.Print(s, st, dialect)
		text = spoilt(r, text)
		checkText(t, text, dialect)
		if _, ok := sql.ReadText(text, dialect); ok {
			right++
		} else {
			wrong++
		}
	}
	if right < 300 || wrong < 3000 {
		t.Error(right, wrong)
	}
}

// checkText checks that a text is either not read, which is ErrSyntax, or written again.
func checkText(t *testing.T, text string, dialect int) {
	t.Helper()
	st, ok := sql.ReadText(text, dialect)
	_, err := sql.Parse(shop(t), text, dialect, nil)
	if ok == (err == api.ErrSyntax) {
		t.Fatal(err, dialect, text)
	}
	if !ok {
		return
	}
	if again, whole := sql.WriteText(st, dialect); !whole || again != text {
		t.Fatal(dialect, text, again)
	}
}

// P4.10, Z1: whatever the bytes are, a text is not read, or written again.
func FuzzParse(f *testing.F) {
	for seed := range 60 {
		st, _, _ := made(shop(f), seed)
		text, _ := sql.Print(shop(f), st, 1+seed%3)
		f.Add(text, 1+seed%3)
	}
	f.Fuzz(func(t *testing.T, text string, dialect int) {
		if dialect < api.DialectPlain || dialect > api.DialectBracket {
			if _, err := sql.Parse(shop(t), text, dialect, nil); err != api.ErrArg {
				t.Fatal(err)
			}
			return
		}
		checkText(t, text, dialect)
	})
}
