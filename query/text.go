package query

import (
	"strings"

	"dumbwaiter/api"
	"dumbwaiter/value"
)

// ExprText returns the text of a condition.
func ExprText(e api.Expr) (string, api.Errno) {
	if isTooLarge(e) {
		return "", api.ErrLarge
	}
	var b strings.Builder
	if err := writeExpr(&b, e); err != api.OK {
		return "", err
	}
	if b.Len() > api.MaxListing {
		return "", api.ErrLarge
	}
	return b.String(), api.OK
}

// writeExpr writes a condition, up to its first error.
func writeExpr(b *strings.Builder, e api.Expr) api.Errno {
	if word := wordOf(e.Kind); word != "" {
		return writeOwn(b, word, e)
	}
	args := make([]string, len(e.Args))
	for i, arg := range e.Args {
		var inner strings.Builder
		if err := writeExpr(&inner, arg); err != api.OK {
			return err
		}
		args[i] = inner.String()
	}
	s, err := value.ExprText(standing(e, make([]int, len(args))))
	if err != api.OK {
		return err
	}
	if len(args) > 0 {
		head, _, _ := strings.Cut(s, "(")
		s = head + "(" + strings.Join(args, ",") + ")"
	}
	b.WriteString(s)
	return api.OK
}

// wordOf returns the word with which the text of a part begins that only conditions have, nothing for other parts.
func wordOf(kind int) string {
	switch kind {
	case api.XSome:
		return "some"
	case api.XEvery:
		return "every"
	case api.XMany:
		return "many"
	case api.XIs:
		return "is"
	}
	return ""
}

// kindNamed returns the kind of parts whose text begins with a word, 0 if there is none.
func kindNamed(word string) int {
	for kind := api.XSome; kind <= api.XIs; kind++ {
		if wordOf(kind) == word {
			return kind
		}
	}
	return 0
}

// writeOwn writes a part that only conditions have, with its word.
func writeOwn(b *strings.Builder, word string, e api.Expr) api.Errno {
	if !isFormed(e) {
		return api.ErrForm
	}
	b.WriteString(word + ":" + e.Name + "(")
	for _, arg := range e.Args {
		if err := writeExpr(b, arg); err != api.OK {
			return err
		}
	}
	if e.Source != "" {
		b.WriteString(":" + e.Source)
	}
	b.WriteString(")")
	if !isWord(e.Name) || e.Source != "" && !isWord(e.Source) {
		return api.ErrName
	}
	return api.OK
}

// isWord reports whether a text has bytes, and only such as names and paths have.
func isWord(s string) bool {
	for i := range len(s) {
		c := s[i]
		if (c < 'a' || c > 'z') && (c < '0' || c > '9') && c != '_' && c != '.' {
			return false
		}
	}
	return s != ""
}

// ExprRead returns the condition with a text.
func ExprRead(s string) (api.Expr, api.Errno) {
	if len(s) > api.MaxListing {
		return api.Expr{}, api.ErrLarge
	}
	r := reader{s}
	e, ok := r.expr()
	if !ok || r.rest != "" {
		return api.Expr{}, api.ErrSyntax
	}
	if isTooLarge(e) {
		return api.Expr{}, api.ErrLarge
	}
	return e, api.OK
}

// reader reads conditions from the beginning of a text.
type reader struct{ rest string }

// takeByte takes a byte off the text, if it is the next one.
func (r *reader) takeByte(c byte) bool {
	if r.rest == "" || r.rest[0] != c {
		return false
	}
	r.rest = r.rest[1:]
	return true
}

// expr reads a condition.
func (r *reader) expr() (api.Expr, bool) {
	end := strings.IndexAny(r.rest, "(),")
	if strings.HasPrefix(r.rest, "'") {
		end = quotedEnd(r.rest)
	}
	if end < 0 {
		end = len(r.rest)
	}
	word := r.rest[:end]
	r.rest = r.rest[end:]
	if !r.takeByte('(') {
		e, err := value.ExprRead(word)
		return e, err == api.OK
	}
	args, ok := r.args()
	if !ok {
		return api.Expr{}, false
	}
	head, name, isOwn := strings.Cut(word, ":")
	if isOwn {
		return own(kindNamed(head), name, args)
	}
	return call(head, args)
}

// quotedEnd returns the number of bytes of the Text at the beginning of a text that begins with a quote: it ends with a quote behind which there is no other one.
func quotedEnd(s string) int {
	for i := 1; i < len(s); i++ {
		if s[i] != '\'' {
			continue
		}
		if i++; i == len(s) || s[i] != '\'' {
			return i
		}
	}
	return len(s)
}

// args reads Args behind a parenthesis.
func (r *reader) args() ([]api.Expr, bool) {
	var l []api.Expr
	if r.takeByte(')') {
		return nil, true
	}
	for {
		e, ok := r.expr()
		if !ok {
			return nil, false
		}
		l = append(l, e)
		if r.takeByte(')') {
			return l, true
		}
		if !r.takeByte(',') {
			return nil, false
		}
	}
}

// own returns the part of a kind that only conditions have, with a Name and what stands in the parentheses.
func own(kind int, name string, args []api.Expr) (api.Expr, bool) {
	e := api.Expr{Kind: kind, Name: name, Args: args}
	if kind == api.XIs && len(args) == 1 && args[0].Kind == api.XColumn && args[0].Source == "" {
		e.Source, e.Args = args[0].Name, nil
	}
	return e, kind != 0 && isFormed(e) && isWord(name)
}

// manyArgs is a number of Args that only parts with any number of them have.
const manyArgs = 100

// call returns the XOp, XCase or XIn with a head and Args. The head is read with nulls standing for them, of which there need not be more than tells how many there can be: XCase asks for an odd number.
func call(head string, args []api.Expr) (api.Expr, bool) {
	count := len(args)
	if count > manyArgs {
		count = manyArgs + count%2
	}
	if count == 0 {
		return api.Expr{}, false
	}
	e, err := value.ExprRead(head + "(" + strings.Repeat("null,", count-1) + "null)")
	e.Args = args
	return e, err == api.OK
}
