package query

import (
	"slices"
	"strconv"
	"strings"

	"dumbwaiter/api"
)

// Text writes a find.
func Text(f api.Find) (string, api.Errno) {
	if len(f.Where) > 1 {
		return "", api.ErrForm
	}
	var b strings.Builder
	line := func(words ...string) { b.WriteString(strings.Join(words, " ") + "\n") }
	line("find", f.Entity)
	for _, e := range f.Where {
		s, err := ExprText(e)
		if err != api.OK {
			return "", err
		}
		line("where", s)
	}
	if !hasWords(f) {
		return "", api.ErrName
	}
	for _, o := range f.Order {
		line(orderWords(o)...)
	}
	for _, x := range numbersOf(&f) {
		if *x.number != x.usual {
			line(x.word, strconv.Itoa(*x.number))
		}
		if x.word == "offset" && f.Gone {
			line("gone")
		}
	}
	for _, path := range f.Include {
		line("include", path)
	}
	if b.Len() > api.MaxListing {
		return "", api.ErrLarge
	}
	return b.String(), api.OK
}

// hasWords reports whether the entity and the paths of a find can be written.
func hasWords(f api.Find) bool {
	words := append(mapped(f.Order, func(o api.By) string { return o.Path }), f.Include...)
	return isWord(f.Entity) && !slices.ContainsFunc(words, func(s string) bool { return !isWord(s) })
}

// orderWords returns the words of the line of an element of an order.
func orderWords(o api.By) []string {
	words := []string{"order", o.Path}
	if o.Desc {
		words = append(words, "desc")
	}
	if o.Last {
		words = append(words, "last")
	}
	return words
}

// numberOf is a number of a find that is written unless it is the usual one.
type numberOf struct {
	word   string
	number *int
	usual  int
}

// numbersOf returns the numbers of a find in their order.
func numbersOf(f *api.Find) []numberOf {
	return []numberOf{{"limit", &f.Limit, -1}, {"offset", &f.Offset, 0}, {"tenant", &f.Tenant, 0}}
}

// Read returns the find with a text.
func Read(s string) (api.Find, api.Errno) {
	if len(s) > api.MaxListing {
		return api.Find{}, api.ErrLarge
	}
	l, ok := lineReaderOf(s)
	f := api.Find{Limit: -1}
	if !ok || !l.word("find", &f.Entity) {
		return api.Find{}, api.ErrSyntax
	}
	err := l.where(&f)
	if !l.order(&f) || !l.numbers(&f) {
		return api.Find{}, api.ErrSyntax
	}
	for path := ""; l.word("include", &path); {
		f.Include = append(f.Include, path)
	}
	switch {
	case len(l.lines) > 0:
		return api.Find{}, api.ErrSyntax
	case err != api.OK:
		return api.Find{}, err
	}
	return f, api.OK
}

// lineReader reads the lines of a find that are left.
type lineReader struct{ lines []string }

// lineReaderOf returns the reader of a text that consists of lines.
func lineReaderOf(s string) (*lineReader, bool) {
	lines := strings.Split(s, "\n")
	last := len(lines) - 1
	return &lineReader{lines[:last]}, lines[last] == ""
}

// take takes the next line, if it begins with a word, and returns what stands behind it and a blank.
func (l *lineReader) take(word string) (string, bool) {
	if len(l.lines) == 0 {
		return "", false
	}
	rest, ok := strings.CutPrefix(l.lines[0], word+" ")
	if ok {
		l.lines = l.lines[1:]
	}
	return rest, ok
}

// word reads a line with a word and a name or path.
func (l *lineReader) word(word string, to *string) bool {
	before := l.lines
	rest, ok := l.take(word)
	if !ok || !isWord(rest) {
		l.lines = before
		return false
	}
	*to = rest
	return true
}

// where reads the line of a condition, if there is one.
func (l *lineReader) where(f *api.Find) api.Errno {
	rest, ok := l.take("where")
	if !ok {
		return api.OK
	}
	e, err := ExprRead(rest)
	f.Where = []api.Expr{e}
	return err
}

// order reads the lines of an order.
func (l *lineReader) order(f *api.Find) bool {
	for {
		rest, ok := l.take("order")
		if !ok {
			return true
		}
		path, flags, _ := strings.Cut(rest, " ")
		o := api.By{Path: path, Desc: strings.HasPrefix(flags, "desc"), Last: strings.HasSuffix(flags, "last")}
		if !isWord(path) || strings.Join(orderWords(o), " ") != "order "+rest {
			return false
		}
		f.Order = append(f.Order, o)
	}
}

// numbers reads the lines of numbers, and that of Gone.
func (l *lineReader) numbers(f *api.Find) bool {
	for _, x := range numbersOf(f) {
		if rest, ok := l.take(x.word); ok {
			n, e := strconv.Atoi(rest)
			if e != nil || strconv.Itoa(n) != rest || n == x.usual || n < -api.MaxInt || n > api.MaxInt {
				return false
			}
			*x.number = n
		}
		if x.word == "offset" && len(l.lines) > 0 && l.lines[0] == "gone" {
			f.Gone = true
			l.lines = l.lines[1:]
		}
	}
	return true
}
