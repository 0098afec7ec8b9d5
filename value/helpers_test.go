package value_test

import (
	"strings"

	"dumbwaiter/api"
)

var null = api.Value{}

func boolean(n int) api.Value { return api.Value{Kind: api.Bool, N: n} }

func integer(n int) api.Value { return api.Value{Kind: api.Int, N: n} }

func text(s string) api.Value { return api.Value{Kind: api.Text, S: s} }

func moment(n int) api.Value { return api.Value{Kind: api.Moment, N: n} }

// long is a text with so many bytes.
func long(n int) string { return strings.Repeat("x", n) }

// ordered are right values in the order of Compare, without two that are equal.
func ordered() []api.Value {
	return []api.Value{
		null,
		boolean(0), boolean(1),
		integer(-api.MaxInt), integer(-256), integer(-1), integer(0), integer(1), integer(255), integer(256), integer(api.MaxInt),
		text(""), text(" "), text("'"), text("A"), text("Z"), text("a"), text("a "), text("aa"), text("ab"), text("b"), text(long(99)), text(long(100)), text("~"),
		moment(0), moment(1), moment(86400), moment(951782400), moment(api.MaxMoment),
	}
}

// wrong are values that are not right.
func wrong() []api.Value {
	return []api.Value{
		{N: 1}, {S: "a"}, {Kind: -1}, {Kind: 5}, {Kind: 5, N: 1}, {Kind: -1 << 63}, {Kind: 1<<63 - 1, N: 1, S: "a"},
		{Kind: api.Bool, N: 2}, {Kind: api.Bool, N: -1}, {Kind: api.Bool, N: 1, S: "a"},
		{Kind: api.Int, N: api.MaxInt + 1}, {Kind: api.Int, N: -api.MaxInt - 1}, {Kind: api.Int, N: -1 << 63}, {Kind: api.Int, N: 1<<63 - 1}, {Kind: api.Int, N: 1, S: "1"},
		{Kind: api.Text, S: long(101)}, {Kind: api.Text, S: "a\x1f"}, {Kind: api.Text, S: "\x7f"}, {Kind: api.Text, S: "é"}, {Kind: api.Text, S: "\x00"}, {Kind: api.Text, N: 1}, {Kind: api.Text, N: 1, S: "a"},
		{Kind: api.Moment, N: -1}, {Kind: api.Moment, N: api.MaxMoment + 1}, {Kind: api.Moment, N: 1, S: "a"}, {Kind: api.Moment, N: -1 << 63},
	}
}

// all are right values and others.
func all() []api.Value { return append(ordered(), wrong()...) }

func lit(v api.Value) api.Expr { return api.Expr{Kind: api.XValue, Value: v} }

func param(n int) api.Expr { return api.Expr{Kind: api.XParam, N: n} }

func column(name string) api.Expr { return api.Expr{Kind: api.XColumn, Name: name} }

func columnOf(source, name string) api.Expr {
	return api.Expr{Kind: api.XColumn, Source: source, Name: name}
}

func op(o int, args ...api.Expr) api.Expr { return api.Expr{Kind: api.XOp, Op: o, Args: args} }

func opN(o, n int, args ...api.Expr) api.Expr {
	return api.Expr{Kind: api.XOp, Op: o, N: n, Args: args}
}

func cases(args ...api.Expr) api.Expr { return api.Expr{Kind: api.XCase, Args: args} }

func in(args ...api.Expr) api.Expr { return api.Expr{Kind: api.XIn, Args: args} }

// nots is an expression of so many levels.
func nots(levels int) api.Expr {
	e := column("b")
	for range levels - 1 {
		e = op(api.OpNot, e)
	}
	return e
}

// wide is an expression of so many parts (at least 3) on two levels.
func wide(parts int) api.Expr {
	e := op(api.OpCoalesce)
	for range parts - 1 {
		e.Args = append(e.Args, column("i"))
	}
	return e
}
