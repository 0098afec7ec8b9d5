package schema

import (
	"slices"
	"strings"

	"dumbwaiter/api"
	"dumbwaiter/value"
)

// listing is a text of lines that is being written.
type listing struct{ b strings.Builder }

// line writes a line of words.
func (l *listing) line(words ...string) {
	l.b.WriteString(strings.Join(words, " "))
	l.b.WriteByte('\n')
}

// text returns the text, unless it is too long.
func (l *listing) text() (string, api.Errno) {
	if l.b.Len() > api.MaxListing {
		return "", api.ErrLarge
	}
	return l.b.String(), api.OK
}

// readListing returns what has a text. read can be generous about the order of lines and words, as only the text that write writes counts.
func readListing[T any](s string, read func(string) (T, bool), write func(T) (string, api.Errno), check func(T) api.Errno) (T, api.Errno) {
	var none T
	if len(s) > api.MaxListing {
		return none, api.ErrLarge
	}
	x, ok := read(s)
	if !ok {
		return none, api.ErrSyntax
	}
	if text, err := write(x); err != api.OK || text != s {
		return none, api.ErrSyntax
	}
	if err := check(x); err != api.OK {
		return none, err
	}
	return x, api.OK
}

// words are the words of a line.
type words []string

// when appends words if a condition holds.
func (w words) when(there bool, more ...string) words {
	if !there {
		return w
	}
	return append(w, more...)
}

// typed appends the words of a kind, of whether there can be nulls, and of a Default.
func (w words) typed(kind int, null bool, initial api.Value) words {
	return append(w, kindWords()[kind]).when(null, "null").when(initial.Kind != api.Null, "default", value.Show(initial))
}

// linesOf returns the words of each line of a text, if it ends with the end of a line.
func linesOf(s string) ([]words, bool) {
	var l []words
	for s != "" {
		line, rest, ok := strings.Cut(s, "\n")
		if !ok {
			return nil, false
		}
		l = append(l, wordsOf(line))
		s = rest
	}
	return l, true
}

// wordsOf returns the words between the blanks of a line that do not stand in quotes. (A doubled quote ends a Text and begins it again.)
func wordsOf(line string) words {
	var w words
	start, quoted := 0, false
	for i := range len(line) {
		switch {
		case line[i] == '\'':
			quoted = !quoted
		case line[i] == ' ' && !quoted:
			w = append(w, line[start:i])
			start = i + 1
		}
	}
	return append(w, line[start:])
}

// all reports whether there are at least some number of words, each of a form.
func (w words) all(least int, form func(string) bool) bool {
	for _, word := range w {
		if !form(word) {
			return false
		}
	}
	return len(w) >= least
}

// kindWords returns the words of the kinds of values, by their numbers.
func kindWords() words {
	return words{api.Bool: "bool", api.Int: "int", api.Text: "text", api.Moment: "moment"}
}

// numberOf returns the number of a word of a table, 0 if it has none.
func (w words) numberOf(word string) int { return max(slices.Index(w, word), 0) }

// traits are what words can say of stored values.
type traits struct {
	null    bool
	initial api.Value
	texts   []string
}

// readTraits returns what words say of stored values. The words can stand in any order here.
func readTraits(w words) (traits, bool) {
	var t traits
	for len(w) > 0 {
		switch {
		case w[0] == "null":
			t.null = true
			w = w[1:]
		case w[0] == "default" && len(w) > 1:
			v, err := value.Read(w[1])
			if err != api.OK || v.Kind == api.Null {
				return traits{}, false
			}
			t.initial = v
			w = w[2:]
		case w[0] == "texts":
			texts, ok := readTexts(w[1:])
			t.texts = texts
			return t, ok
		default:
			return traits{}, false
		}
	}
	return t, true
}

// readTexts returns the Texts that words show.
func readTexts(w words) ([]string, bool) {
	var l []string
	for _, word := range w {
		v, err := value.Read(word)
		if err != api.OK || v.Kind != api.Text {
			return nil, false
		}
		l = append(l, v.S)
	}
	return l, true
}
