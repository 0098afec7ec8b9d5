package value

import (
	"strconv"
	"strings"

	"dumbwaiter/api"
)

// ExprText returns the text of a scalar expression.
func ExprText(e api.Expr) (string, api.Errno) {
	if tooLarge(e) {
		return "", api.ErrLarge
	}
	if err := checkWritten(e); err != api.OK {
		return "", err
	}
	var b strings.Builder
	writeExpr(&b, e)
	if b.Len() > api.MaxListing {
		return "", api.ErrLarge
	}
	return b.String(), api.OK
}

// checkWritten returns the error of the first part that has no text.
func checkWritten(e api.Expr) api.Errno {
	for _, arg := range e.Args {
		if err := checkWritten(arg); err != api.OK {
			return err
		}
	}
	return checkWrittenPart(e)
}

// checkWrittenPart returns the error of a part itself, if it has no text.
func checkWrittenPart(e api.Expr) api.Errno {
	err := checkPart(e)
	switch {
	case err != api.OK:
		return err
	case e.Kind == api.XParam && (e.N < 0 || e.N >= api.MaxParams):
		return api.ErrArg
	case e.Kind == api.XColumn && (e.Name == "" || wordEnd(e.Name) < len(e.Name) || wordEnd(e.Source) < len(e.Source)):
		return api.ErrName
	}
	return api.OK
}

// wordEnd returns the number of bytes at the beginning of a text that can stand in the Source and the Name of an XColumn.
func wordEnd(s string) int {
	for i := range len(s) {
		c := s[i]
		if (c < 'a' || c > 'z') && (c < '0' || c > '9') && c != '_' && c != '.' {
			return i
		}
	}
	return len(s)
}

// writeExpr writes an expression that has a text.
func writeExpr(b *strings.Builder, e api.Expr) {
	switch e.Kind {
	case api.XValue:
		b.WriteString(Show(e.Value))
		return
	case api.XParam:
		b.WriteString("?" + strconv.Itoa(e.N))
		return
	case api.XColumn:
		b.WriteString(e.Source + ":" + e.Name)
		return
	}
	b.WriteString(head(e) + "(")
	for i, arg := range e.Args {
		if i > 0 {
			b.WriteString(",")
		}
		writeExpr(b, arg)
	}
	b.WriteString(")")
}

// head returns what stands ahead of the parentheses around the Args.
func head(e api.Expr) string {
	switch {
	case e.Kind == api.XCase:
		return "case"
	case e.Kind == api.XIn:
		return "in"
	case usesNumber(e.Op):
		return operations[e.Op].name + "." + strconv.Itoa(e.N)
	}
	return operations[e.Op].name
}
