package sql_test

import (
	"strconv"
	"strings"
	"testing"

	"dumbwaiter/api"
	"dumbwaiter/sql"
)

// parsed is a text, with N(x) for names, and the error of Parse in each dialect.
type parsed struct {
	text string
	want [3]api.Errno
}

// in3 is an error in all dialects.
func in3(err api.Errno) [3]api.Errno { return [3]api.Errno{err, err, err} }

// tryParse tries to parse texts.
func tryParse(t *testing.T, l []parsed) {
	t.Helper()
	for _, x := range l {
		for i, want := range x.want {
			text := named(x.text, i+1)
			st, err := sql.Parse(shop(t), text, i+1, []int{api.Int})
			if err != want || err != api.OK && !same(st, api.Statement{}) {
				t.Error(i+1, err, want, text)
			}
		}
	}
}

const (
	fine   = api.OK
	syntax = api.ErrSyntax
)

// P4.10: texts that are none of any statement.
func TestSyntax(t *testing.T) {
	var l []parsed
	for _, s := range []string{
		"", "select", "select ", "select 1", "select 1 as a", "select 1 as N()", "select 1 as N(A)", "select 1 as N(a b)", "select 1 as N(é)", "select 1 as N(a),", "select 1 as N(a), ", "select 1 as N(a),2 as N(b)", "select 1 as N(a) , 2 as N(b)", "select 1 N(a)", "SELECT 1 as N(a)", "select  1 as N(a)", "select\n1 as N(a)", "select 1 as N(a);", "select * as N(a)", "select as N(a)", "select distinct 1 as N(a) distinct",
		"select 1 as N(a) from", "select 1 as N(a) from N(t)", "select 1 as N(a) from t as N(x)", "select 1 as N(a) from N(t) as N(x), N(t) as N(y)", "select 1 as N(a) from (select 1 as N(a)", "select 1 as N(a) from (select 1 as N(a))", "select 1 as N(a) from () as N(x)", "select 1 as N(a) from (N(t)) as N(x)",
		"select 1 as N(a) from N(t) as N(x) join N(t) as N(y)", "select 1 as N(a) from N(t) as N(x) right join N(t) as N(y) on 1", "select 1 as N(a) from N(t) as N(x) left N(t) as N(y) on 1", "select 1 as N(a) from N(t) as N(x) inner join N(t) as N(y) on 1",
		"select 1 as N(a) where", "select 1 as N(a) where 1 where 1", "select 1 as N(a) group by", "select 1 as N(a) group by ", "select 1 as N(a) having 1 group by 1", "select 1 as N(a) where 1 from N(t) as N(x)", "select 1 as N(a) order by", "select 1 as N(a) order by 1 asc", "select 1 as N(a) order by 1 nulls first", "select 1 as N(a) order by 1, ", "select 1 as N(a) limit", "select 1 as N(a) limit 1 order by 1",
		"select 01 as N(a)", "select -0 as N(a)", "select - 1 as N(a)", "select +1 as N(a)", "select 1.0 as N(a)", "select 1000000000000000 as N(a)", "select -1000000000000000 as N(a)", "select 99999999999999999999 as N(a)", "select 1a as N(a)", "select nul as N(a)", "select nulll as N(a)", "select NULL as N(a)", "select x as N(a)",
		"select ' as N(a)", "select 'a as N(a)", "select 'a'' as N(a)", "select 'a'b' as N(a)", "select \"a\" as N(a)", "select '\n' as N(a)", "select 'é' as N(a)", "select '\x7f' as N(a)", "select '" + long(101) + "' as N(a)",
		"select N(a) as N(a)", "select N(a). as N(a)", "select N(a) .N(b) as N(a)", "select N(a).N(b).N(c) as N(a)", "select N(a).b as N(a)",
		"select (1) as N(a)", "select ((1 + 2)) as N(a)", "select 1 + 2 as N(a)", "select (1+2) as N(a)", "select (1 +2) as N(a)", "select (1 + 2 + 3) as N(a)", "select (1 + ) as N(a)", "select ( 1 + 2) as N(a)", "select (1 == 2) as N(a)", "select (1 != 2) as N(a)", "select (null is not null) as N(a)", "select (not  null) as N(a)", "select not null as N(a)", "select (-1) as N(a)", "select (- 1 - 2) as N(a)", "select (null xor null) as N(a)", "select (1 ^ 2) as N(a)",
		"select (1 in ()) as N(a)", "select (1 in 1) as N(a)", "select (1 in (1) as N(a)", "select (1 in (select 1 as N(a), 2)) as N(a)", "select (1 in (1, select 1 as N(a))) as N(a)", "select lower(1 in (1)) as N(a)", "select lower(1)) as N(a)", "select (1 not in (1)) as N(a)", "select exists 1 as N(a)", "select exists (1) as N(a)", "select (exists (select 1 as N(a))) as N(a)", "select (select 1) as N(a)", "select ((select 1 as N(a))) as N(a)", "select select 1 as N(a) as N(a)",
		"select lower() as N(a)", "select lower('a', 'b') as N(a)", "select lower ('a') as N(a)", "select LOWER('a') as N(a)", "select coalesce() as N(a)", "select coalesce(1) as N(a)", "select coalesce(1,2) as N(a)", "select coalesce(1, 2 as N(a)", "select trim('a') as N(a)", "select count() as N(a)", "select count(1, 2) as N(a)", "select count(distinct *) as N(a)", "select count( *) as N(a)", "select count(all 1) as N(a)", "select sum(*) as N(a)", "select min() as N(a)", "select max(1 ) as N(a)", "select avg(1) as N(a)",
		"select rank() as N(a)", "select rank(1) over () as N(a)", "select row_number() over as N(a)", "select row_number() over ( ) as N(a)", "select count(*) over () as N(a)", "select min(1) over () as N(a)", "select sum(distinct 1) over () as N(a)", "select rank() over (partition by) as N(a)", "select rank() over (partition by ) as N(a)", "select rank() over (order by 1 partition by 1) as N(a)", "select rank() over (partition by 1 ) as N(a)", "select rank() over ( order by 1) as N(a)", "select rank() over (partition by 1order by 1) as N(a)", "select rank() over (order by ) as N(a)", "select dense_rank() over () as N(a)",
		"insert into N(pet) values (1)", "insert into N(pet) () values (1)", "insert into N(pet) (N(id))", "insert into N(pet) (N(id)) ", "insert into N(pet) (N(id)) values", "insert into N(pet) (N(id)) values ", "insert into N(pet) (N(id)) values ()", "insert into N(pet) (N(id)) values (1),(2)", "insert into N(pet) (N(id)) values (1) select 1 as N(a)", "insert into N(pet)(N(id)) values (1)", "insert N(pet) (N(id)) values (1)", "insert into N(pet) as N(x) (N(id)) values (1)", "insert into N(pet) (N(id),N(n)) values (1, 2)", "insert into N(pet) (N(id)) (select 1 as N(a))",
		"update N(pet) as N(x)", "update N(pet) as N(x) set", "update N(pet) as N(x) set ", "update N(pet) set N(n) = 1", "update N(pet) as N(x) set N(n)=1", "update N(pet) as N(x) set N(x).N(n) = 1", "update N(pet) as N(x) set N(n) = 1, ", "update N(pet) as N(x) set N(n) = 1 where", "delete", "delete ", "delete N(pet)", "delete from N(pet)", "delete N(x) from N(pet)", "delete N(x) from N(pet) as N(y)", "delete  from N(pet) as N(x)", "truncate N(pet)", "drop N(pet)",
	} {
		l = append(l, parsed{s, in3(syntax)})
	}
	tryParse(t, l)
}

// P4.10: what is only a text in some dialects.
func TestSyntaxOfDialects(t *testing.T) {
	only := func(plain, tick, bracket bool) [3]api.Errno {
		l := in3(syntax)
		for i, is := range []bool{plain, tick, bracket} {
			if is {
				l[i] = fine
			}
		}
		return l
	}
	item := func(s string) string { return "select " + s + " as N(a)" }
	query := func(s string) string { return "select 1 as N(a) from N(pet) as N(q)" + s }
	long := "'" + long(100) + "'"
	tryParse(t, []parsed{
		{item("true"), only(true, true, false)}, {item("false"), only(true, true, false)}, {item("(1 = 1)"), only(true, true, true)}, {item("(1 = 2)"), only(true, true, true)}, {item(long), only(true, true, true)},
		{item("'it''s'"), only(true, false, true)}, {item(`'it\'s'`), only(false, true, false)}, {item(`'\\'`), only(true, true, true)}, {item(`'\'`), only(true, false, true)}, {item(`'\a'`), only(true, false, true)}, {item(`''''`), only(true, false, true)},
		{item("moment '1970-01-01T00:00:00'"), only(true, false, false)}, {item("moment('1970-01-01T00:00:00')"), only(false, true, false)}, {item("#1970-01-01T00:00:00#"), only(false, false, true)}, {item("moment '1970-02-30T00:00:00'"), in3(syntax)}, {item("moment('1969-12-31T23:59:59')"), in3(syntax)}, {item("#1970-01-01 00:00:00#"), in3(syntax)}, {item("#1970-01-01T00:00:00"), in3(syntax)}, {item("moment '1970-01-01T00:00:00"), in3(syntax)}, {item("moment '@1970-01-01T00:00:00'"), in3(syntax)}, {item("moment ''1970-01-01T00:00:00''"), in3(syntax)},
		{item(":1"), only(true, false, false)}, {item("?1"), only(false, true, false)}, {item("@1"), only(false, false, true)}, {item(":0"), in3(syntax)}, {item(":01"), in3(syntax)}, {item("?-1"), in3(syntax)}, {item("@1001"), in3(syntax)}, {item(":"), in3(syntax)}, {item("?"), in3(syntax)},
		{item(":2"), [3]api.Errno{api.ErrArg, syntax, syntax}}, {item("?1000"), [3]api.Errno{syntax, api.ErrArg, syntax}}, {item("@60"), [3]api.Errno{syntax, syntax, api.ErrArg}},
		{item("(1 is not distinct from 2)"), only(true, false, false)}, {item("(1 <=> 2)"), only(false, true, false)}, {item("same(1, 2)"), only(false, false, true)}, {item("('a' || 'b')"), only(true, false, false)}, {item("concat('a', 'b')"), only(false, true, false)}, {item("concat('a', 'b', 'c')"), in3(syntax)}, {item("('a' & 'b')"), only(false, false, true)}, {item("length('a')"), only(true, false, false)}, {item("char_length('a')"), only(false, true, false)}, {item("len('a')"), only(false, false, true)},
		{item("substring('a' from 1 for 2)"), only(true, false, false)}, {item("substr('a', 1, 2)"), only(false, true, false)}, {item("mid('a', 1, 2)"), only(false, false, true)}, {item("mid('a', 1)"), in3(syntax)}, {item("trunc(null, 'day')"), only(true, false, false)}, {item("date_trunc('day', null)"), only(false, true, false)}, {item("trunc_day(null)"), only(false, false, true)}, {item("trunc(null, 'week')"), in3(syntax)}, {item("trunc(null, day)"), in3(syntax)}, {item("week(null)"), in3(syntax)}, {item("trunc_int(null)"), in3(syntax)},
		{item("extract(day from null)"), only(true, false, false)}, {item("day(null)"), only(false, true, false)}, {item("part_day(null)"), only(false, false, true)}, {item("cast(null as int)"), only(true, false, false)}, {item("convert(null, int)"), only(false, true, false)}, {item("to_int(null)"), only(false, false, true)}, {item("cast(null as day)"), in3(syntax)}, {item("to_day(null)"), in3(syntax)}, {item("cast(null as null)"), in3(syntax)},
		{item("case when null then 1 else 2 end"), only(true, true, false)}, {item("iif(null, 1, 2)"), only(false, false, true)}, {item("iif(null, 1, iif(null, 2, 3))"), only(false, false, true)}, {item("iif(null, 1)"), in3(syntax)}, {item("iif(null, 1, 2, 3)"), in3(syntax)}, {item("iif(null, 1, iif(null, 2, 3)"), in3(syntax)}, {item("case when null then 1 end"), in3(syntax)}, {item("case else 1 end"), in3(syntax)}, {item("case 1 when null then 1 else 2 end"), in3(syntax)}, {item("case when null then 1 else 2"), in3(syntax)},
		{query(" order by 1 nulls last"), only(true, false, false)}, {query(" order by 1 desc nulls last"), only(true, false, false)}, {query(" order by 1 nulls last desc"), in3(syntax)}, {query(" order by 1 desc"), only(true, true, true)}, {query(" order by (1 is null), 1"), only(true, true, true)},
		{query(" limit 1"), only(true, true, false)}, {query(" limit 1 offset 2"), only(true, false, false)}, {query(" offset 2"), only(true, false, false)}, {query(" offset 2 limit 1"), in3(syntax)}, {query(" limit 2, 1"), only(false, true, false)}, {query(" limit 2, 999999999999999"), only(false, true, false)}, {query(" limit 2,1"), in3(syntax)}, {query(" offset 2 rows"), only(false, false, true)}, {query(" offset 2 rows fetch next 1 rows only"), only(false, false, true)}, {query(" offset 0 rows fetch next 0 rows only"), only(false, false, true)}, {query(" fetch next 1 rows only"), in3(syntax)},
		// For what stands there already nothing is written.
		{query(" limit 1 offset 0"), in3(syntax)}, {query(" offset 0"), in3(syntax)}, {query(" limit 0, 1"), in3(syntax)}, {query(" offset 0 rows"), in3(syntax)}, {query(" limit -1"), in3(syntax)}, {query(" limit 1, -1"), in3(syntax)}, {query(" offset 1 rows fetch next -1 rows only"), in3(syntax)}, {query(" limit 1000000000000000"), in3(syntax)}, {query(" limit 01"), in3(syntax)},
		{query(" limit -2"), [3]api.Errno{api.ErrArg, api.ErrArg, syntax}}, {query(" limit -3, 2"), [3]api.Errno{syntax, api.ErrArg, syntax}}, {query(" offset -3"), [3]api.Errno{api.ErrArg, syntax, syntax}}, {query(" offset -3 rows"), [3]api.Errno{syntax, syntax, api.ErrArg}}, {query(" offset 0 rows fetch next -3 rows only"), [3]api.Errno{syntax, syntax, api.ErrArg}},
		{"update N(pet) as N(x) set N(n) = 1", only(true, true, false)}, {"update N(x) set N(n) = 1 from N(pet) as N(x)", only(false, false, true)}, {"update N(x) set N(n) = 1 from N(pet) as N(y)", in3(syntax)}, {"update N(x) set N(n) = 1 where null from N(pet) as N(x)", in3(syntax)}, {"delete from N(pet) as N(x)", only(true, false, false)}, {"delete N(x) from N(pet) as N(x)", only(false, true, true)},
	})
	for i, names := range []string{`"a"`, "`a`", "[a]"} {
		for k := range 3 {
			if _, err := sql.Parse(shop(t), "select 1 as "+names, k+1, nil); (err == api.OK) != (i == k) {
				t.Error(i, k, err)
			}
		}
	}
}

// P4.10: texts of statements that Check refuses have its errors.
func TestParseChecks(t *testing.T) {
	tryParse(t, []parsed{
		{"select 1 as N(1a)", in3(api.ErrName)}, {"select 1 as N(_)", in3(api.ErrName)}, {"select 1 as N(" + long(41) + ")", in3(api.ErrName)}, {"select 1 as N(a), 2 as N(a)", in3(api.ErrTwice)}, {"select N(a).N(b) as N(a)", in3(api.ErrName)}, {"select N(0).N(_) as N(a)", in3(api.ErrName)}, {"select 1 as N(a) from N(house) as N(x)", in3(api.ErrName)}, {"select 1 as N(a) from N(pet) as N(9)", in3(api.ErrName)},
		{"select (1 + 'a') as N(a)", in3(api.ErrType)}, {"select sum('a') as N(a)", in3(api.ErrType)}, {"select min(distinct 1) as N(a)", in3(api.ErrForm)}, {"select max(distinct 1) as N(a)", in3(api.ErrForm)}, {"select sum(sum(1)) as N(a)", in3(api.ErrState)}, {"select 1 as N(a) where rank() over ()", in3(api.ErrState)}, {"select 1 as N(a) where 1", in3(api.ErrType)},
		// Joins without a source ahead of them have a text, too.
		{"select 1 as N(a) join N(pet) as N(q) on null", in3(api.ErrForm)}, {"select 1 as N(a) left join N(pet) as N(q) on null", in3(api.ErrForm)},
		{"select (1 in (select 1 as N(a), 2 as N(b))) as N(a)", in3(api.ErrForm)}, {"insert into N(house) (N(id)) values (1)", in3(api.ErrName)}, {"insert into N(pet) (N(id), N(n)) values (1)", in3(api.ErrForm)}, {"insert into N(pet) (N(id)) values (1), (2, 3)", in3(api.ErrForm)}, {"insert into N(pet) (N(id), N(id)) values (1, 2)", in3(api.ErrTwice)}, {"insert into N(pet) (N(id)) select 'a' as N(a)", in3(api.ErrType)},
	})
	s := shop(t)
	if _, err := sql.Parse(s, `select 1 as "a"`, api.DialectPlain, []int{0}); err != api.ErrKind {
		t.Error(err)
	}
	if _, err := sql.Parse(s, `select 1 as "a"`, api.DialectPlain, many60(api.MaxParams+1)); err != api.ErrLarge {
		t.Error(err)
	}
	s.Tables[0].Name = ""
	for text, want := range map[string]api.Errno{`select 1 as "a"`: api.ErrName, `select 1 as a`: api.ErrSyntax} {
		if _, err := sql.Parse(s, text, api.DialectPlain, nil); err != want {
			t.Error(err, want)
		}
	}
	for _, dialect := range []int{0, 4, -1} {
		if _, err := sql.Parse(s, "", dialect, nil); err != api.ErrArg {
			t.Error(err)
		}
		if _, err := sql.Print(s, api.Statement{}, dialect); err != api.ErrArg {
			t.Error(err)
		}
		if _, err := sql.Native(s, api.Statement{}, dialect); err != api.ErrArg {
			t.Error(err)
		}
	}
}

// P4.9, P4.10: how long texts can be, and parts that are added on the way.
func TestLimitsOfTexts(t *testing.T) {
	s := shop(t)
	texts := func(n int) api.Statement {
		return query(people0(in(append(exprs(lit(null)), many(n, lit(text(long(100))))...)...)))
	}
	// select (null in ( .. )) as "a" has 29 bytes, and each text 104 with the comma, but the last one.
	const head = len(`select (null in ()) as "a"`)
	n := (api.MaxWritten - head + 2) / 104
	rest := api.MaxWritten - head + 2 - 104*n
	st := texts(n)
	args := st.Select[0].Items[0].Expr.Args
	if rest < 8 {
		t.Fatal(rest)
	}
	st.Select[0].Items[0].Expr.Args = append(args, lit(text(long(rest-4))))
	got, err := sql.Print(s, st, api.DialectPlain)
	if err != api.OK || len(got) != api.MaxWritten {
		t.Fatal(err, len(got))
	}
	if back, err := sql.Parse(s, got, api.DialectPlain, nil); err != api.OK || !sql.Equal(back, st) {
		t.Error(err)
	}
	if _, err := sql.Parse(s, got+" ", api.DialectPlain, nil); err != api.ErrLarge {
		t.Error(err)
	}
	st.Select[0].Items[0].Name = "ab"
	if got, err := sql.Print(s, st, api.DialectPlain); err != api.ErrLarge || got != "" {
		t.Error(err)
	}
	if native, err := sql.Native(s, st, api.DialectPlain); err != api.ErrLarge || native {
		t.Error(err)
	}
	// A case with many conditions becomes one of many levels.
	for levels, want := range map[int]api.Errno{api.MaxLevels - 3: api.OK, api.MaxLevels - 2: api.ErrLarge, 5900: api.ErrLarge} {
		wide := query(people0(cases(append(many(2*levels, lit(null)), num(1))...)))
		got, err := sql.Print(s, wide, api.DialectBracket)
		must(t, err)
		if _, err := sql.Parse(s, got, api.DialectBracket, nil); err != want {
			t.Error(levels, err)
		}
		if native, err := sql.Native(s, wide, api.DialectBracket); err != api.OK || native {
			t.Error(native, err)
		}
		if got, err = sql.Print(s, wide, api.DialectPlain); err != api.OK || strings.Count(got, "when") != levels {
			t.Error(err)
		}
		if _, err := sql.Parse(s, got, api.DialectPlain, nil); err != api.OK {
			t.Error(levels, err)
		}
	}
	// An order of which each element has an order within it doubles with each level: the text has no bound.
	q := people0(num(1))
	for range 25 {
		q = with(people0(num(1)), func(x *api.Select) { x.Order = []api.Order{by(scalar(q))} })
	}
	if _, err := sql.Print(s, query(q), api.DialectBracket); err != api.ErrLarge {
		t.Error(err)
	}
	if _, err := sql.Print(s, query(q), api.DialectTick); err != api.OK {
		t.Error(err)
	}
	// So do the parts: 1 + 3 + 3 + 4.
	big := with(people0(num(1)), func(q *api.Select) { q.Order = []api.Order{by(in(many(api.MaxBig-5, num(2))...))} })
	got, err = sql.Print(s, query(big), api.DialectBracket)
	must(t, err)
	if _, err := sql.Parse(s, got, api.DialectBracket, nil); err != api.ErrLarge {
		t.Error(err)
	}
}

// Z1: texts that are nested deeply, or long, in any way.
func TestDeepTexts(t *testing.T) {
	for _, piece := range []string{"(", "(- ", "(not ", "((select ", "lower(", "exists (select ", "select 1 as N(a) from (", "select (select ", "iif(", "iif(1, ", "iif(1, 1, ", "case when ", "coalesce(", "coalesce(1, ", "count(", "rank() over (partition by ", "(1 in (", "'", "''", `\'`, "-", "1", "N(a)", "select 1 as N(a), "} {
		for dialect := 1; dialect <= 3; dialect++ {
			s := named(piece, dialect)
			for _, text := range []string{strings.Repeat(s, api.MaxWritten/len(s)), "select " + strings.Repeat(s, (api.MaxWritten-7)/len(s))} {
				if _, err := sql.Parse(shop(t), text, dialect, nil); err != api.ErrSyntax {
					t.Error(err, piece)
				}
			}
		}
	}
	// A text of a case with so many conditions that no other text has as many levels.
	levels := (api.MaxWritten - 20) / len("iif(1, 1, )")
	text := "select " + strings.Repeat("iif(1, 1, ", levels) + "1" + strings.Repeat(")", levels) + " as [a]"
	if _, err := sql.Parse(shop(t), text, api.DialectBracket, nil); err != api.ErrLarge {
		t.Error(err)
	}
	// A thousand levels of each kind.
	for open, end := range map[string]string{"(- ": ")", "(1 + ": ")", "(select ": ` as "a")`, "exists (select ": ` as "a")`, "lower(": ")", "case when null then 1 else ": " end"} {
		text := "select " + strings.Repeat(open, 1000) + "1" + strings.Repeat(end, 1000) + ` as "a"`
		if _, err := sql.Parse(shop(t), text, api.DialectPlain, nil); err != api.ErrLarge {
			t.Error(err, open)
		}
	}
	deep := `select 1 as "a"`
	for i := range 1000 {
		deep = `select 1 as "a" from (` + deep + `) as "x` + strconv.Itoa(i) + `"`
	}
	if _, err := sql.Parse(shop(t), deep, api.DialectPlain, nil); err != api.ErrLarge {
		t.Error(err)
	}
}
