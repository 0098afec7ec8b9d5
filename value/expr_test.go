package value_test

import (
	"math/rand"
	"reflect"
	"strings"
	"testing"

	"dumbwaiter/api"
	"dumbwaiter/value"
)

// writing is an expression with its text.
type writing struct {
	e    api.Expr
	want string
}

// written are expressions with their texts.
func written() []writing {
	a, b := column("a"), column("b")
	return []writing{
		{lit(null), "null"}, {lit(boolean(1)), "true"}, {lit(boolean(0)), "false"}, {lit(integer(-5)), "-5"}, {lit(integer(0)), "0"}, {lit(integer(-api.MaxInt)), "-999999999999999"},
		{lit(text("")), "''"}, {lit(text("'")), "''''"}, {lit(text("it's, (a)")), "'it''s, (a)'"}, {lit(text(",'")), "','''"}, {lit(moment(0)), "@1970-01-01T00:00:00"},
		{param(0), "?0"}, {param(59), "?59"},
		{a, ":a"}, {columnOf("x", "a"), "x:a"}, {columnOf("x.y_1", "a.b_2"), "x.y_1:a.b_2"}, {columnOf("null", "true"), "null:true"}, {columnOf("5", "7"), "5:7"}, {columnOf("add", "case"), "add:case"}, {columnOf("cast.3", "."), "cast.3:."}, {column("null"), ":null"}, {columnOf("_", "0"), "_:0"},
		{op(api.OpNot, a), "not(:a)"}, {op(api.OpAnd, a, b), "and(:a,:b)"}, {op(api.OpOr, a, b), "or(:a,:b)"},
		{op(api.OpEqual, a, b), "equal(:a,:b)"}, {op(api.OpUnequal, a, b), "unequal(:a,:b)"}, {op(api.OpLess, a, b), "less(:a,:b)"}, {op(api.OpAtMost, a, b), "atmost(:a,:b)"}, {op(api.OpGreater, a, b), "greater(:a,:b)"}, {op(api.OpAtLeast, a, b), "atleast(:a,:b)"}, {op(api.OpSame, a, b), "same(:a,:b)"}, {op(api.OpNull, a), "null(:a)"},
		{op(api.OpAdd, a, lit(integer(5))), "add(:a,5)"}, {op(api.OpSub, a, b), "sub(:a,:b)"}, {op(api.OpMul, a, b), "mul(:a,:b)"}, {op(api.OpDiv, a, b), "div(:a,:b)"}, {op(api.OpMod, a, b), "mod(:a,:b)"}, {op(api.OpNeg, a), "neg(:a)"},
		{op(api.OpConcat, a, b), "concat(:a,:b)"}, {op(api.OpLike, a, b), "like(:a,:b)"}, {op(api.OpLower, a), "lower(:a)"}, {op(api.OpUpper, a), "upper(:a)"}, {op(api.OpLength, a), "length(:a)"}, {op(api.OpPart, a, b, a), "part(:a,:b,:a)"},
		{op(api.OpCoalesce, a, b), "coalesce(:a,:b)"}, {op(api.OpCoalesce, a, b, lit(null), a), "coalesce(:a,:b,null,:a)"},
		{opN(api.OpTrunc, 1, a), "trunc.1(:a)"}, {opN(api.OpTrunc, 6, a), "trunc.6(:a)"}, {opN(api.OpUnit, 1, a), "unit.1(:a)"}, {opN(api.OpUnit, 6, a), "unit.6(:a)"}, {opN(api.OpCast, 1, a), "cast.1(:a)"}, {opN(api.OpCast, 4, a), "cast.4(:a)"},
		{cases(a, b, a), "case(:a,:b,:a)"}, {cases(a, b, a, b, lit(text("x"))), "case(:a,:b,:a,:b,'x')"}, {in(a, b), "in(:a,:b)"}, {in(param(1), lit(null), lit(moment(1)), lit(integer(-1))), "in(?1,null,@1970-01-01T00:00:01,-1)"},
		{op(api.OpNot, op(api.OpNull, op(api.OpAdd, lit(text("a)")), op(api.OpNeg, columnOf("x", "y"))))), "not(null(add('a)',neg(x:y))))"},
		// Kinds that do not fit, and names and parameters that may be missing, have texts.
		{op(api.OpAdd, lit(text("a")), lit(boolean(1))), "add('a',true)"}, {opN(api.OpCast, api.Bool, lit(moment(0))), "cast.1(@1970-01-01T00:00:00)"}, {in(lit(integer(1)), lit(text("1"))), "in(1,'1')"},
		{column(long(api.MaxListing - 1)), ":" + long(api.MaxListing-1)},
		{nots(24), strings.Repeat("not(", 23) + ":b" + strings.Repeat(")", 23)},
		{wide(400), "coalesce(:i" + strings.Repeat(",:i", 398) + ")"},
	}
}

// P1.16
func TestExprText(t *testing.T) {
	for _, x := range written() {
		if got, err := value.ExprText(x.e); err != api.OK || got != x.want {
			t.Error(x.want, got, err)
		}
		if got, err := value.ExprRead(x.want); err != api.OK || !reflect.DeepEqual(got, x.e) {
			t.Error(x.want, got, err)
		}
	}
}

// P1.16
func TestExprTextErrors(t *testing.T) {
	for _, x := range partErrors() {
		if got, err := value.ExprText(x.e); got != "" || err != x.want {
			t.Error(x, got, err)
		}
	}
	for _, x := range []failure{
		{param(-1), api.ErrArg}, {param(60), api.ErrArg}, {param(1<<63 - 1), api.ErrArg},
		{column(""), api.ErrName}, {columnOf("x", ""), api.ErrName}, {column("A"), api.ErrName}, {column("a b"), api.ErrName}, {column("a-b"), api.ErrName}, {column("a:b"), api.ErrName}, {column("é"), api.ErrName}, {column("a("), api.ErrName}, {column("{"), api.ErrName}, {column("`"), api.ErrName}, {column("/"), api.ErrName}, {column("a\x00"), api.ErrName},
		{columnOf("A", "a"), api.ErrName}, {columnOf("a ", "a"), api.ErrName}, {columnOf(":", "a"), api.ErrName},
		{op(api.OpAdd, column("A"), param(60)), api.ErrName}, {op(api.OpAdd, param(60), column("A")), api.ErrArg}, {op(api.OpAdd, column("A")), api.ErrName}, {with(column("A"), func(e *api.Expr) { e.N = 1 }), api.ErrForm},
		{op(api.OpAnd, column("A"), nots(24)), api.ErrLarge},
		{column(long(api.MaxListing)), api.ErrLarge}, {columnOf(long(api.MaxListing-1), "a"), api.ErrLarge}, {op(api.OpNot, column(long(api.MaxListing-5))), api.ErrLarge}, {op(api.OpNot, column(long(api.MaxListing-6))), api.OK},
		{op(api.OpAdd, column(long(api.MaxListing)), column("A")), api.ErrName},
	} {
		got, err := value.ExprText(x.e)
		if err != x.want || (got == "") != (err != api.OK) {
			t.Error(x.want, err, len(got))
		}
	}
}

// P1.16
func TestExprReadErrors(t *testing.T) {
	for _, s := range []string{
		"", " ", ":", "x:", "a", "nul", "nulls", "()", "(:a)", ",", ")", "?", "?x", "?-1", "?01", "?60", "?99999999999999999999", "?+1", "? 1", "?1 ", "?1.", "?1:a",
		":A", "A:a", ":a:b", ":a b", ":a ", " :a", "::a", ":a,", ":a)", ":a(", "-", "-0", "--1", "-a", "-1:a", "+1", "01", "1000000000000000", "1.5", "'", "'a", "'a'b", "'a''", "'\n'", "'" + long(101) + "'", "''a:b", "@", "@1970-01-01", "@1970-02-30T00:00:00", "@1970-01-01T00:00:000", "@1970-01-01T00:00:00:a",
		"add", "add(", "add()", "add(:a", "add(:a,", "add(:a,)", "add(:a,5", "add(:a, 5)", "add(:a ,5)", "add( :a,5)", "add(:a,5) ", "add(:a,5))", "add(:a,5),", "add(:a;5)", "add(?1-5)", "add('a'5)", "add(not(:a):b)", "add(nul,5)", "not(x)", "add(:a)", "add(:a,5,6)", "add(,5)", "Add(:a,5)", "ADD(:a,5)", "plus(:a,5)", "op(:a)", "(:a,5)", "add.1(:a,5)", "add.(:a,5)", "add.0(:a,5)",
		"not(:a,:b)", "not()", "coalesce()", "coalesce(:a)", "part(:a,:b)", "cast(:a)", "cast.(:a)", "cast.0(:a)", "cast.5(:a)", "cast.03(:a)", "cast.3.(:a)", "cast.3.3(:a)", "cast.x(:a)", "cast.3", "cast.-1(:a)", ".3(:a)", "unit.0(:a)", "unit.7(:a)", "trunc.7(:a)", "trunc.0(:a)", "unit.1(:a,:b)",
		"case()", "case(:a)", "case(:a,:b)", "case(:a,:b,:c,:d)", "case.1(:a,:b,:c)", "in()", "in(:a)", "in.1(:a,:b)", "exists(:a)", "null()", "null(:a,:b)", "true(:a)", "not(not(:a)", "not(not(:a)))", "not(add(:a))",
		strings.Repeat("not(", 30), strings.Repeat("not(", 30) + ":a" + strings.Repeat(")", 29), strings.Repeat("not(", 16000), "coalesce(" + strings.Repeat(":i,", 500) + ")", strings.Repeat(" ", api.MaxListing),
	} {
		if e, err := value.ExprRead(s); err != api.ErrSyntax || !reflect.DeepEqual(e, api.Expr{}) {
			t.Error(s, e, err)
		}
	}
}

// P1.16
func TestExprReadLarge(t *testing.T) {
	for _, s := range []string{
		strings.Repeat(" ", api.MaxListing+1), ":" + long(api.MaxListing),
		strings.Repeat("not(", 24) + ":b" + strings.Repeat(")", 24),
		strings.Repeat("not(", 13000) + ":b" + strings.Repeat(")", 13000),
		"coalesce(:i" + strings.Repeat(",:i", 399) + ")",
		"coalesce(0" + strings.Repeat(",0", 32000) + ")",
	} {
		if e, err := value.ExprRead(s); err != api.ErrLarge || !reflect.DeepEqual(e, api.Expr{}) {
			t.Error(len(s), err)
		}
	}
}

// P1.16
func TestExprTextOfRandomExprs(t *testing.T) {
	r := rand.New(rand.NewSource(2))
	for range 20000 {
		e := randomExpr(r, 1+r.Intn(4), 1+r.Intn(5))
		s, err := value.ExprText(e)
		if err == api.ErrLarge {
			continue
		}
		back, backErr := value.ExprRead(s)
		if err != api.OK || backErr != api.OK || !reflect.DeepEqual(back, e) {
			t.Fatal(s, err, backErr)
		}
	}
}

// P1.16: ExprRead accepts nothing but what ExprText writes.
func FuzzExprRead(f *testing.F) {
	for _, x := range written() {
		f.Add(x.want)
	}
	f.Fuzz(func(t *testing.T, s string) {
		e, err := value.ExprRead(s)
		switch err {
		case api.OK:
			if back, err := value.ExprText(e); err != api.OK || back != s {
				t.Error(s, back, err)
			}
		case api.ErrSyntax, api.ErrLarge:
			if !reflect.DeepEqual(e, api.Expr{}) {
				t.Error(s, e)
			}
		default:
			t.Error(s, err)
		}
	})
}
