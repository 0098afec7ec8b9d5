// Package listing has texts of several lines: how lines and their words are written and read, and the lines of tables.
package listing

import (
	"slices"
	"strings"

	"dumbwaiter/api"
	"dumbwaiter/value"
)

// Writer writes a text of lines.
type Writer struct{ b strings.Builder }

// Line writes a line of words.
func (w *Writer) Line(words ...string) {
	w.b.WriteString(strings.Join(words, " "))
	w.b.WriteByte('\n')
}

// Text returns the text, unless it is too long.
func (w *Writer) Text() (string, api.Errno) {
	if w.b.Len() > api.MaxListing {
		return "", api.ErrLarge
	}
	return w.b.String(), api.OK
}

// Read returns what has a text. read can be generous about the order of lines and words, as only the text that write writes counts.
func Read[T any](s string, read func(string) (T, bool), write func(T) (string, api.Errno), check func(T) api.Errno) (T, api.Errno) {
	var none T
	if len(s) > api.MaxListing {
		return none, api.ErrLarge
	}
	x, ok := read(s)
	if !ok {
		return none, api.ErrSyntax
	}
	if text, err := write(x); err != api.OK || text != s {
		return none, api.ErrSyntax
	}
	if err := check(x); err != api.OK {
		return none, err
	}
	return x, api.OK
}

// Words are the words of a line.
type Words []string

// When appends words if a condition holds.
func (w Words) When(there bool, more ...string) Words {
	if !there {
		return w
	}
	return append(w, more...)
}

// Typed appends the words of a kind, of whether there can be nulls, and of a Default.
func (w Words) Typed(kind int, null bool, initial api.Value) Words {
	return append(w, Kinds()[kind]).When(null, "null").When(initial.Kind != api.Null, "default", value.Show(initial))
}

// Lines returns the words of each line of a text, if it ends with the end of a line.
func Lines(s string) ([]Words, bool) {
	var l []Words
	for s != "" {
		line, rest, ok := strings.Cut(s, "\n")
		if !ok {
			return nil, false
		}
		l = append(l, wordsOf(line))
		s = rest
	}
	return l, true
}

// wordsOf returns the words between the blanks of a line that do not stand in quotes. (A doubled quote ends a Text and begins it again.)
func wordsOf(line string) Words {
	var w Words
	start, quoted := 0, false
	for i := range len(line) {
		switch {
		case line[i] == '\'':
			quoted = !quoted
		case line[i] == ' ' && !quoted:
			w = append(w, line[start:i])
			start = i + 1
		}
	}
	return append(w, line[start:])
}

// All reports whether there are at least some number of words, each of a form.
func (w Words) All(least int, form func(string) bool) bool {
	for _, word := range w {
		if !form(word) {
			return false
		}
	}
	return len(w) >= least
}

// Kinds returns the words of the kinds of values, by their numbers.
func Kinds() Words {
	return Words{api.Bool: "bool", api.Int: "int", api.Text: "text", api.Moment: "moment"}
}

// NumberOf returns the number of a word of a table, 0 if it has none.
func (w Words) NumberOf(word string) int { return max(slices.Index(w, word), 0) }

// Traits are what words can say of stored values.
type Traits struct {
	Null    bool
	Default api.Value
	Texts   []string
}

// ReadTraits returns what words say of stored values. The words can stand in any order here.
func ReadTraits(w Words) (Traits, bool) {
	var t Traits
	for len(w) > 0 {
		switch {
		case w[0] == "null":
			t.Null = true
			w = w[1:]
		case w[0] == "default" && len(w) > 1:
			v, err := value.Read(w[1])
			if err != api.OK || v.Kind == api.Null {
				return Traits{}, false
			}
			t.Default = v
			w = w[2:]
		case w[0] == "texts":
			texts, ok := readTexts(w[1:])
			t.Texts = texts
			return t, ok
		default:
			return Traits{}, false
		}
	}
	return t, true
}

// readTexts returns the Texts that words show.
func readTexts(w Words) ([]string, bool) {
	var l []string
	for _, word := range w {
		v, err := value.Read(word)
		if err != api.OK || v.Kind != api.Text {
			return nil, false
		}
		l = append(l, v.S)
	}
	return l, true
}
