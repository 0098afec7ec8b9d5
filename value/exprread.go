package value

import (
	"strconv"
	"strings"

	"dumbwaiter/api"
)

// ExprRead returns the expression with a text.
func ExprRead(s string) (api.Expr, api.Errno) {
	if len(s) > api.MaxListing {
		return api.Expr{}, api.ErrLarge
	}
	r := reader{s}
	e, ok := r.expr()
	if !ok || r.rest != "" {
		return api.Expr{}, api.ErrSyntax
	}
	if tooLarge(e) {
		return api.Expr{}, api.ErrLarge
	}
	return e, api.OK
}

// reader reads expressions from the beginning of a text.
type reader struct{ rest string }

// take takes some bytes off the text.
func (r *reader) take(count int) string {
	s := r.rest[:count]
	r.rest = r.rest[count:]
	return s
}

// takeByte takes a byte off the text, if it is the next one.
func (r *reader) takeByte(c byte) bool {
	if r.rest == "" || r.rest[0] != c {
		return false
	}
	r.take(1)
	return true
}

// expr reads an expression, whose parts are the ones that ExprText writes.
func (r *reader) expr() (api.Expr, bool) {
	e, ok := r.part()
	return e, ok && checkWrittenPart(e) == api.OK
}

// part reads a part with its Args.
func (r *reader) part() (api.Expr, bool) {
	switch {
	case r.takeByte('?'):
		n, ok := readNumber(r.take(wordEnd(r.rest)))
		return api.Expr{Kind: api.XParam, N: n}, ok
	case strings.HasPrefix(r.rest, "'"):
		return literal(r.take(quotedEnd(r.rest)))
	case strings.HasPrefix(r.rest, "@"):
		return literal(r.take(min(momentLength, len(r.rest))))
	case strings.HasPrefix(r.rest, "-"):
		return literal(r.take(1 + wordEnd(r.rest[1:])))
	}
	word := r.take(wordEnd(r.rest))
	switch {
	case r.takeByte(':'):
		return api.Expr{Kind: api.XColumn, Source: word, Name: r.take(wordEnd(r.rest))}, true
	case r.takeByte('('):
		return r.call(word)
	}
	return literal(word)
}

// call reads the Args behind the head of an XOp, XCase or XIn and a parenthesis.
func (r *reader) call(word string) (api.Expr, bool) {
	e, ok := readHead(word)
	if !ok {
		return api.Expr{}, false
	}
	for {
		arg, ok := r.expr()
		if !ok {
			return api.Expr{}, false
		}
		e.Args = append(e.Args, arg)
		if r.takeByte(')') {
			return e, true
		}
		if !r.takeByte(',') {
			return api.Expr{}, false
		}
	}
}

// readHead returns the XOp, XCase or XIn, without Args, that has a head.
func readHead(word string) (api.Expr, bool) {
	switch word {
	case "case":
		return api.Expr{Kind: api.XCase}, true
	case "in":
		return api.Expr{Kind: api.XIn}, true
	}
	name, digits, hasNumber := strings.Cut(word, ".")
	e := api.Expr{Kind: api.XOp, Op: operationNamed(name)}
	if e.Op == 0 || hasNumber != usesNumber(e.Op) {
		return api.Expr{}, false
	}
	if !hasNumber {
		return e, true
	}
	n, ok := readNumber(digits)
	e.N = n
	return e, ok
}

// readNumber returns the number that is written in a word as strconv.Itoa writes it.
func readNumber(word string) (int, bool) {
	n, e := strconv.Atoi(word)
	return n, e == nil && strconv.Itoa(n) == word
}

// literal returns the XValue with a text.
func literal(s string) (api.Expr, bool) {
	v, e := Read(s)
	return api.Expr{Kind: api.XValue, Value: v}, e == api.OK
}

// quotedEnd returns the number of bytes of the Text at the beginning of a text that begins with a quote: it ends with a quote behind which there is no other one.
func quotedEnd(s string) int {
	for i := 1; i < len(s); i++ {
		if s[i] != '\'' {
			continue
		}
		if i+1 == len(s) || s[i+1] != '\'' {
			return i + 1
		}
		i++
	}
	return len(s)
}
