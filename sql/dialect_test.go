package sql_test

import (
	"strings"
	"testing"

	"dumbwaiter/api"
	"dumbwaiter/sql"
)

// written is an expression with its texts in the three dialects. In the first one names are written as N(x), in the others only what differs is given. other says in which dialects Parse gives another statement.
type written struct {
	e                    api.Expr
	plain, tick, bracket string
	other                string
}

// named replaces N(x) by names of a dialect.
func named(s string, dialect int) string {
	open, end := []string{`"`, "`", "["}[dialect-1], []string{`"`, "`", "]"}[dialect-1]
	for {
		i := strings.Index(s, "N(")
		if i < 0 {
			return s
		}
		k := i + strings.Index(s[i:], ")")
		s = s[:i] + open + s[i+2:k] + end + s[k+1:]
	}
}

// forms are expressions of persons p, with a parameter for each kind.
func forms() []written {
	id, name, seen, ok := col("p", "id"), col("p", "name"), col("p", "seen"), col("p", "ok")
	const pid, pname, pseen, pok = "N(p).N(id)", "N(p).N(name)", "N(p).N(seen)", "N(p).N(ok)"
	one := people0(num(1))
	l := []written{
		{e: lit(null), plain: "null"}, {e: num(0), plain: "0"}, {e: num(-5), plain: "-5"}, {e: num(api.MaxInt), plain: "999999999999999"}, {e: num(-api.MaxInt), plain: "-999999999999999"},
		{e: lit(boolean(1)), plain: "true", bracket: "(1 = 1)"}, {e: lit(boolean(0)), plain: "false", bracket: "(1 = 0)"},
		{e: lit(text("")), plain: "''"}, {e: lit(text("it's")), plain: "'it''s'", tick: `'it\'s'`}, {e: lit(text(`\'\`)), plain: `'\''\'`, tick: `'\\\'\\'`}, {e: lit(text("'")), plain: "''''", tick: `'\''`}, {e: lit(text(`"a", [b] #`)), plain: `'"a", [b] #'`},
		{e: lit(moment(0)), plain: "moment '1970-01-01T00:00:00'", tick: "moment('1970-01-01T00:00:00')", bracket: "#1970-01-01T00:00:00#"}, {e: lit(moment(api.MaxMoment)), plain: "moment '9999-12-31T23:59:59'", tick: "moment('9999-12-31T23:59:59')", bracket: "#9999-12-31T23:59:59#"},
		{e: par(0), plain: ":1", tick: "?1", bracket: "@1"}, {e: par(3), plain: ":4", tick: "?4", bracket: "@4"}, {e: id, plain: pid},
		{e: op(api.OpNot, ok), plain: "(not " + pok + ")"}, {e: op(api.OpNeg, id), plain: "(- " + pid + ")"}, {e: op(api.OpNeg, num(-5)), plain: "(- -5)"}, {e: op(api.OpNull, id), plain: "(" + pid + " is null)"},
		{e: op(api.OpSame, id, num(1)), plain: "(" + pid + " is not distinct from 1)", tick: "(" + pid + " <=> 1)", bracket: "same(" + pid + ", 1)"},
		{e: op(api.OpConcat, name, name), plain: "(" + pname + " || " + pname + ")", tick: "concat(" + pname + ", " + pname + ")", bracket: "(" + pname + " & " + pname + ")"},
		{e: op(api.OpLower, name), plain: "lower(" + pname + ")"}, {e: op(api.OpUpper, name), plain: "upper(" + pname + ")"}, {e: op(api.OpCoalesce, id, num(1)), plain: "coalesce(" + pid + ", 1)"}, {e: op(api.OpCoalesce, id, id, num(1)), plain: "coalesce(" + pid + ", " + pid + ", 1)"},
		{e: op(api.OpLength, name), plain: "length(" + pname + ")", tick: "char_length(" + pname + ")", bracket: "len(" + pname + ")"},
		{e: op(api.OpPart, name, num(1), num(2)), plain: "substring(" + pname + " from 1 for 2)", tick: "substr(" + pname + ", 1, 2)", bracket: "mid(" + pname + ", 1, 2)"},
		{e: cases(ok, num(1), num(2)), plain: "case when " + pok + " then 1 else 2 end", bracket: "iif(" + pok + ", 1, 2)"},
		{e: cases(ok, num(1), op(api.OpNot, ok), id, num(2)), plain: "case when " + pok + " then 1 when (not " + pok + ") then " + pid + " else 2 end", bracket: "iif(" + pok + ", 1, iif((not " + pok + "), " + pid + ", 2))", other: "b"},
		{e: cases(ok, cases(ok, num(1), num(2)), cases(ok, num(3), num(4))), plain: "case when " + pok + " then case when " + pok + " then 1 else 2 end else case when " + pok + " then 3 else 4 end end", bracket: "iif(" + pok + ", iif(" + pok + ", 1, 2), iif(" + pok + ", 3, 4))"},
		{e: in(id, num(1)), plain: "(" + pid + " in (1))"}, {e: in(id, num(1), id), plain: "(" + pid + " in (1, " + pid + "))"}, {e: inSub(id, one), plain: "(" + pid + " in (select 1 as N(a)))"}, {e: in(id, scalar(one)), plain: "(" + pid + " in ((select 1 as N(a))))"},
		{e: exists(one), plain: "exists (select 1 as N(a))"}, {e: scalar(one), plain: "(select 1 as N(a))"},
		{e: op(api.OpEqual, num(1), num(2)), plain: "(1 = 2)"}, {e: op(api.OpEqual, num(1), num(1)), plain: "(1 = 1)", other: "b"}, {e: op(api.OpEqual, num(1), num(0)), plain: "(1 = 0)", other: "b"}, {e: op(api.OpEqual, num(1), num(10)), plain: "(1 = 10)"}, {e: op(api.OpEqual, num(0), num(1)), plain: "(0 = 1)"},
		{e: win(api.WinRow, nil, nil), plain: "row_number() over ()"}, {e: win(api.WinRank, nil, exprs(id, name)), plain: "rank() over (partition by " + pid + ", " + pname + ")"}, {e: win(api.WinSum, exprs(id), nil, by(id), api.Order{Expr: name}), plain: "sum(" + pid + ") over (order by " + pid + ", " + pname + ")", bracket: "sum(" + pid + ") over (order by (" + pid + " is null) desc, " + pid + ", (" + pname + " is null) desc, " + pname + ")", other: "b"},
		{e: win(api.WinCount, exprs(id), exprs(seen), api.Order{Expr: id, Desc: true}), plain: "count(" + pid + ") over (partition by " + pseen + " order by " + pid + " desc)", tick: "count(" + pid + ") over (partition by " + pseen + " order by (" + pid + " is null) desc, " + pid + " desc)", other: "t"},
	}
	for n, sign := range map[int]string{api.OpEqual: "=", api.OpUnequal: "<>", api.OpLess: "<", api.OpAtMost: "<=", api.OpGreater: ">", api.OpAtLeast: ">=", api.OpAdd: "+", api.OpSub: "-", api.OpMul: "*", api.OpDiv: "/", api.OpMod: "%"} {
		l = append(l, written{e: op(n, id, op(n, num(2), num(-3))), plain: "(" + pid + " " + sign + " (2 " + sign + " -3))"})
		if n < api.OpAdd {
			l[len(l)-1] = written{e: op(n, id, num(-3)), plain: "(" + pid + " " + sign + " -3)"}
		}
	}
	for n, word := range map[int]string{api.OpAnd: "and", api.OpOr: "or"} {
		l = append(l, written{e: op(n, op(n, ok, lit(null)), op(n, ok, ok)), plain: "((" + pok + " " + word + " null) " + word + " (" + pok + " " + word + " " + pok + "))"})
	}
	l = append(l, written{e: op(api.OpLike, name, lit(text("a%"))), plain: "(" + pname + " like 'a%')"})
	for n, unit := range []string{"second", "minute", "hour", "day", "month", "year"} {
		l = append(l, written{e: opN(api.OpTrunc, n+1, seen), plain: "trunc(" + pseen + ", '" + unit + "')", tick: "date_trunc('" + unit + "', " + pseen + ")", bracket: "trunc_" + unit + "(" + pseen + ")"},
			written{e: opN(api.OpUnit, n+1, seen), plain: "extract(" + unit + " from " + pseen + ")", tick: unit + "(" + pseen + ")", bracket: "part_" + unit + "(" + pseen + ")"})
	}
	for n, kind := range []string{"bool", "int", "text", "moment"} {
		l = append(l, written{e: opN(api.OpCast, n+1, name), plain: "cast(" + pname + " as " + kind + ")", tick: "convert(" + pname + ", " + kind + ")", bracket: "to_" + kind + "(" + pname + ")"})
	}
	for _, x := range []struct {
		e    api.Expr
		text string
	}{
		{agg(api.AggRows), "count(*)"}, {agg(api.AggCount, id), "count(" + pid + ")"}, {agg(api.AggSum, id), "sum(" + pid + ")"}, {agg(api.AggLeast, id), "min(" + pid + ")"}, {agg(api.AggMost, id), "max(" + pid + ")"}, {distinct(api.AggCount, id), "count(distinct " + pid + ")"}, {distinct(api.AggSum, id), "sum(distinct " + pid + ")"},
	} {
		l = append(l, written{e: x.e, plain: x.text})
	}
	return l
}

// tryTexts tries to print and to parse a statement in each dialect.
func tryTexts(t *testing.T, st api.Statement, texts [3]string, other string) {
	t.Helper()
	s := shop(t)
	for i, text := range texts {
		dialect := i + 1
		if text == "" {
			text = texts[0]
		}
		text = named(text, dialect)
		got, err := sql.Print(s, st, dialect)
		if err != api.OK || got != text {
			t.Error(err, got, text)
			continue
		}
		native := !strings.Contains(other, "ptb"[i:i+1])
		back, err := sql.Parse(s, text, dialect, st.Params)
		if err != api.OK || same(back, st) != native {
			t.Error(err, native, text, back)
		}
		if is, err := sql.Native(s, st, dialect); err != api.OK || is != native {
			t.Error(err, native, text)
		}
		if again, err := sql.Print(s, back, dialect); err != api.OK || again != text {
			t.Error(err, text, again)
		}
		for _, more := range []string{text + " ", " " + text, text + ")", strings.Replace(text, " ", "  ", 1), strings.ToUpper(text), text[1:], text + "\n"} {
			if _, err := sql.Parse(s, more, dialect, st.Params); err != api.ErrSyntax {
				t.Error(err, more)
			}
		}
	}
}

// P4.9, P4.10: the forms of expressions.
func TestFormsOfExpressions(t *testing.T) {
	for _, x := range forms() {
		head, tail := "select ", " as N(a) from N(person) as N(p)"
		texts := [3]string{head + x.plain + tail}
		for i, s := range []string{x.tick, x.bracket} {
			if s != "" {
				texts[i+1] = head + s + tail
			}
		}
		tryTexts(t, query(people(x.e), api.Bool, api.Int, api.Text, api.Moment), texts, x.other)
	}
}

// P4.9, P4.10: the forms of statements.
func TestFormsOfStatements(t *testing.T) {
	id, n := col("q", "id"), col("q", "n")
	base := zoo(id)
	const head = "select N(q).N(id) as N(a) from N(pet) as N(q)"
	full := with(base, func(q *api.Select) {
		q.Distinct = true
		q.Items = append(q.Items, item("b_2", agg(api.AggRows)))
		q.Joins = []api.Join{join(table("none", "x"), lit(null)), leftJoin(sub(people0(num(1)), "y"), op(api.OpNull, col("y", "a")))}
		q.Where = exprs(op(api.OpNull, n))
		q.Group = exprs(id, n)
		q.Having = exprs(lit(null))
		q.Order = []api.Order{{Expr: id, Desc: true, Last: true}}
		q.Limit = 3
	})
	const fullText = "select distinct N(q).N(id) as N(a), count(*) as N(b_2) from N(pet) as N(q) join N(none) as N(x) on null left join (select 1 as N(a)) as N(y) on (N(y).N(a) is null) where (N(q).N(n) is null) group by N(q).N(id), N(q).N(n) having null order by "
	tryTexts(t, query(full), [3]string{fullText + "N(q).N(id) desc nulls last limit 3", fullText + "N(q).N(id) desc limit 3", fullText + "(N(q).N(id) is null), N(q).N(id) desc offset 0 rows fetch next 3 rows only"}, "b")
	for _, x := range []struct {
		o                    api.Order
		plain, tick, bracket string
		other                string
	}{
		{api.Order{Expr: n}, "Q", "Q", "(Q is null) desc, Q", "b"}, {api.Order{Expr: n, Desc: true}, "Q desc", "(Q is null) desc, Q desc", "Q desc", "t"},
		{api.Order{Expr: n, Last: true}, "Q nulls last", "(Q is null), Q", "Q", "t"}, {api.Order{Expr: n, Desc: true, Last: true}, "Q desc nulls last", "Q desc", "(Q is null), Q desc", "b"},
	} {
		texts := [3]string{x.plain, x.tick, x.bracket}
		for i := range texts {
			texts[i] = head + " order by " + strings.ReplaceAll(texts[i], "Q", "N(q).N(n)")
		}
		tryTexts(t, query(with(base, func(q *api.Select) { q.Order = []api.Order{x.o} })), texts, x.other)
	}
	for _, x := range []struct {
		limit, offset        int
		plain, tick, bracket string
		other                string
	}{
		{-1, 0, "", "", "", ""}, {5, 0, " limit 5", " limit 5", " offset 0 rows fetch next 5 rows only", ""}, {0, 0, " limit 0", " limit 0", " offset 0 rows fetch next 0 rows only", ""}, {-1, 7, " offset 7", " limit 7, 999999999999999", " offset 7 rows", "t"}, {5, 7, " limit 5 offset 7", " limit 7, 5", " offset 7 rows fetch next 5 rows only", ""}, {api.MaxInt, 7, " limit 999999999999999 offset 7", " limit 7, 999999999999999", " offset 7 rows fetch next 999999999999999 rows only", ""},
	} {
		tryTexts(t, query(with(base, func(q *api.Select) { q.Limit, q.Offset = x.limit, x.offset })), [3]string{head + x.plain, head + x.tick, head + x.bracket}, x.other)
	}
	tryTexts(t, query(people0(num(1))), [3]string{"select 1 as N(a)"}, "")
	tryTexts(t, query(with(people0(num(1)), func(q *api.Select) { q.Where = exprs(lit(null)); q.Having = exprs(lit(null)) })), [3]string{"select 1 as N(a) where null having null"}, "")
	tryTexts(t, insert("pet", []string{"id", "kind"}, exprs(num(1), lit(text("a"))), exprs(num(2), lit(null))), [3]string{"insert into N(pet) (N(id), N(kind)) values (1, 'a'), (2, null)"}, "")
	tryTexts(t, insert("pet", []string{"id"}, exprs(num(1))), [3]string{"insert into N(pet) (N(id)) values (1)"}, "")
	tryTexts(t, into("pet", []string{"id"}, base), [3]string{"insert into N(pet) (N(id)) " + head}, "")
	sets := update("pet", []string{"n", "kind"}, exprs(col("x", "id"), lit(null)))
	tryTexts(t, sets, [3]string{"update N(pet) as N(x) set N(n) = N(x).N(id), N(kind) = null", "", "update N(x) set N(n) = N(x).N(id), N(kind) = null from N(pet) as N(x)"}, "")
	sets.Where = exprs(lit(null))
	tryTexts(t, sets, [3]string{"update N(pet) as N(x) set N(n) = N(x).N(id), N(kind) = null where null", "", "update N(x) set N(n) = N(x).N(id), N(kind) = null from N(pet) as N(x) where null"}, "")
	const less = "delete N(x) from N(pet) as N(x)"
	tryTexts(t, remove("pet"), [3]string{"delete from N(pet) as N(x)", less, less}, "")
	tryTexts(t, remove("pet", is(1)), [3]string{"delete from N(pet) as N(x) where (N(x).N(id) = 1)", less + " where (N(x).N(id) = 1)", less + " where (N(x).N(id) = 1)"}, "")
}

// P4.9: the example of the chapter.
func TestExample(t *testing.T) {
	st := query(api.Select{Items: items(item("n", col("x", "n"))), From: from(table("pet", "x")), Order: []api.Order{by(col("x", "n"))}, Limit: 2, Offset: 1})
	got, err := sql.Print(shop(t), st, api.DialectBracket)
	if want := "select [x].[n] as [n] from [pet] as [x] order by ([x].[n] is null) desc, [x].[n] offset 1 rows fetch next 2 rows only"; err != api.OK || got != want {
		t.Error(got, err)
	}
}

// P4.3, P4.10: an OpNull by which a distinct select is ordered gets an OpNull of its own in a dialect with another rule for nulls; that one is not of an item, so that Check refuses it.
func TestDistinctNulls(t *testing.T) {
	q := with(zoo(col("q", "n")), func(q *api.Select) {
		q.Distinct = true
		q.Order = []api.Order{{Expr: op(api.OpNull, col("q", "n")), Last: true}}
	})
	for dialect, want := range map[int]api.Errno{api.DialectPlain: api.OK, api.DialectTick: api.ErrState, api.DialectBracket: api.OK} {
		text, err := sql.Print(shop(t), query(q), dialect)
		must(t, err)
		if _, err := sql.Parse(shop(t), text, dialect, nil); err != want {
			t.Error(err, text)
		}
		if native, err := sql.Native(shop(t), query(q), dialect); err != api.OK || native != (want == api.OK) {
			t.Error(native, err)
		}
	}
}
