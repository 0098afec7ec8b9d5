package sql

import (
	"strings"

	"dumbwaiter/api"
)

// dialect is what dialects do not have in common.
type dialect struct {
	id            int
	open, close   string    // around a name
	param         string    // ahead of the number of a parameter
	moment        [2]string // around a Moment
	forms         []form
	truth, untrue string
}

// form is how an operation is written.
type form struct {
	op, n int      // n: the unit or the kind
	texts []string // ahead of the first Arg, between two of them, and behind the last one
}

// isDialect reports whether there is a dialect with a number.
func isDialect(number int) bool {
	return number >= api.DialectPlain && number <= api.DialectBracket
}

// dialectOf returns the dialect with a number.
func dialectOf(number int) dialect {
	d := dialect{id: number, open: `"`, close: `"`, param: ":", moment: [2]string{"moment '", "'"}, truth: "true", untrue: "false"}
	switch number {
	case api.DialectTick:
		d.open, d.close, d.param, d.moment = "`", "`", "?", [2]string{"moment('", "')"}
	case api.DialectBracket:
		d.open, d.close, d.param, d.moment = "[", "]", "@", [2]string{"#", "#"}
		d.truth, d.untrue = "(1 = 1)", "(1 = 0)"
	}
	patterns := patternsOf(number)
	for op := api.OpNot; op <= api.OpCast; op++ {
		d.forms = append(d.forms, formsOf(op, patterns[op])...)
	}
	return d
}

// lastOf returns whether nulls are last in an element of an order of which the dialect says nothing.
func (d dialect) lastOf(desc bool) bool {
	switch d.id {
	case api.DialectTick:
		return desc
	case api.DialectBracket:
		return !desc
	}
	return false
}

// patternsOf returns how operations are written in a dialect, but OpCoalesce, which can have any number of Args. A stands for each Arg, N for the unit or the kind.
func patternsOf(number int) map[int]string {
	m := map[int]string{
		api.OpNot: "(not A)", api.OpNeg: "(- A)", api.OpNull: "(A is null)",
		api.OpAnd: "(A and A)", api.OpOr: "(A or A)", api.OpLike: "(A like A)",
		api.OpEqual: "(A = A)", api.OpUnequal: "(A <> A)",
		api.OpLess: "(A < A)", api.OpAtMost: "(A <= A)", api.OpGreater: "(A > A)", api.OpAtLeast: "(A >= A)",
		api.OpAdd: "(A + A)", api.OpSub: "(A - A)", api.OpMul: "(A * A)", api.OpDiv: "(A / A)", api.OpMod: "(A % A)",
		api.OpLower: "lower(A)", api.OpUpper: "upper(A)",
	}
	switch number {
	case api.DialectPlain:
		m[api.OpSame], m[api.OpConcat] = "(A is not distinct from A)", "(A || A)"
		m[api.OpLength], m[api.OpPart] = "length(A)", "substring(A from A for A)"
		m[api.OpTrunc], m[api.OpUnit], m[api.OpCast] = "trunc(A, 'N')", "extract(N from A)", "cast(A as N)"
	case api.DialectTick:
		m[api.OpSame], m[api.OpConcat] = "(A <=> A)", "concat(A, A)"
		m[api.OpLength], m[api.OpPart] = "char_length(A)", "substr(A, A, A)"
		m[api.OpTrunc], m[api.OpUnit], m[api.OpCast] = "date_trunc('N', A)", "N(A)", "convert(A, N)"
	case api.DialectBracket:
		m[api.OpSame], m[api.OpConcat] = "same(A, A)", "(A & A)"
		m[api.OpLength], m[api.OpPart] = "len(A)", "mid(A, A, A)"
		m[api.OpTrunc], m[api.OpUnit], m[api.OpCast] = "trunc_N(A)", "part_N(A)", "to_N(A)"
	}
	return m
}

// formsOf returns the forms of an operation with a pattern: one for each unit or kind, if it has any.
func formsOf(op int, pattern string) []form {
	words := []string{""}
	switch {
	case pattern == "":
		return nil
	case op == api.OpCast:
		words = []string{api.Bool: "bool", api.Int: "int", api.Text: "text", api.Moment: "moment"}
	case strings.Contains(pattern, "N"):
		words = []string{api.Second: "second", api.Minute: "minute", api.Hour: "hour", api.Day: "day", api.Month: "month", api.Year: "year"}
	}
	var l []form
	for n, word := range words {
		if word != "" || len(words) == 1 {
			l = append(l, form{op, n, strings.Split(strings.Replace(pattern, "N", word, 1), "A")})
		}
	}
	return l
}

// countWord returns the word of an XAgg or XWindow, but AggRows, whose form has no Arg.
func countWord(op int) string {
	switch op {
	case api.AggCount, api.WinCount:
		return "count"
	case api.AggSum, api.WinSum:
		return "sum"
	case api.AggLeast:
		return "min"
	case api.AggMost:
		return "max"
	case api.WinRow:
		return "row_number"
	}
	return "rank"
}

// unfinished is the panic of what cannot be written or read to its end.
type unfinished struct{}

// finishes reports whether a function returns without a panic.
func finishes(f func()) (done bool) {
	defer func() { _ = recover() }()
	f()
	return true
}
