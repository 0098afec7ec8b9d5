package cache_test

import (
	"slices"
	"strings"
	"testing"

	"dumbwaiter/api"
	"dumbwaiter/cache"
	"dumbwaiter/query"
	"dumbwaiter/schema"
	"dumbwaiter/sql"
)

// short writes names without quotes.
func short(s string) string { return strings.ReplaceAll(s, `"`, "") }

// quoted quotes the names in a statement: all words outside of Texts but those of the language.
func quoted(s string) string {
	var b strings.Builder
	for i, part := range strings.Split(s, "'") {
		if i > 0 {
			b.WriteString("'")
		}
		if i%2 == 1 {
			b.WriteString(part)
			continue
		}
		b.WriteString(quotedNames(part))
	}
	return b.String()
}

// quotedNames is quoted for what has no Texts.
func quotedNames(s string) string {
	words := strings.Fields("select distinct from as join left on where group by having order desc nulls last limit offset and or not is null in exists count sum min max row_number over partition insert into values update set delete case when then else end coalesce true false")
	var b strings.Builder
	for len(s) > 0 {
		n := strings.IndexFunc(s, func(c rune) bool { return (c < 'a' || c > 'z') && c != '_' && (c < '0' || c > '9') })
		if n < 0 {
			n = len(s)
		}
		word := s[:n]
		switch {
		case n == 0:
			n = 1
			b.WriteString(s[:1])
		case slices.Contains(words, word), word[0] <= '9':
			b.WriteString(word)
		default:
			b.WriteString(`"` + word + `"`)
		}
		s = s[n:]
	}
	return b.String()
}

// P8.13: where a statement is restricted.
func TestScope(t *testing.T) {
	m := library(t)
	for _, x := range [][2]string{
		// What reads no table of tenants stays as it is.
		{"select 1 as x", ""},
		{"select b.name as x from book as b where exists (select 1 as y from book_near as n where (n.left_id = b.id))", ""},
		// A source is restricted where it stands.
		{"select n.id as x from note as n", "select n.id as x from note as n where (n.tenant = 7)"},
		{"select n.id as x from memo as n where (n.id = 1)", "select n.id as x from memo as n where ((n.tenant = 7) and (n.id = 1))"},
		{"select n.id as x from note_likes as l join note as n on (n.id = l.left_id)", "select n.id as x from note_likes as l join note as n on ((n.tenant = 7) and (n.id = l.left_id)) where (l.tenant = 7)"},
		{"select b.id as x from book as b left join note as n on (n.book_id = b.id) where (n.id is null)", "select b.id as x from book as b left join note as n on ((n.tenant = 7) and (n.book_id = b.id)) where (n.id is null)"},
		// Also within sources and expressions, wherever these stand.
		{"select x.id as x from (select n.id as id from note as n limit 3) as x", "select x.id as x from (select n.id as id from note as n where (n.tenant = 7) limit 3) as x"},
		{
			"select (select count(*) as c from note as o) as x from book as b join (select n.id as id from note as n) as y on exists (select o.id as x from memo as o) where (1 in (select o.id as x from note as o)) group by (select o.id as x from note as o) having exists (select o.id as x from note as o) order by (select o.id as x from note as o) desc",
			"select (select count(*) as c from note as o where (o.tenant = 7)) as x from book as b join (select n.id as id from note as n where (n.tenant = 7)) as y on exists (select o.id as x from memo as o where (o.tenant = 7)) where (1 in (select o.id as x from note as o where (o.tenant = 7))) group by (select o.id as x from note as o where (o.tenant = 7)) having exists (select o.id as x from note as o where (o.tenant = 7)) order by (select o.id as x from note as o where (o.tenant = 7)) desc",
		},
		{
			"select sum((select o.id as x from note as o)) over (partition by (select o.id as x from note as o) order by (select o.id as x from note as o)) as x from book as b",
			"select sum((select o.id as x from note as o where (o.tenant = 7))) over (partition by (select o.id as x from note as o where (o.tenant = 7)) order by (select o.id as x from note as o where (o.tenant = 7))) as x from book as b",
		},
		// Inserts get the column.
		{"insert into note_about (left_id, right_id) values (1, 2), (1, 3)", "insert into note_about (left_id, right_id, tenant) values (1, 2, 7), (1, 3, 7)"},
		{"insert into note (id, body, version) values (1, 'it', (select count(*) as x from note as o))", "insert into note (id, body, version, tenant) values (1, 'it', (select count(*) as x from note as o where (o.tenant = 7)), 7)"},
		{"insert into note_about (left_id, right_id) select n.id as l, b.id as r from note as n join book as b on true", "insert into note_about (left_id, right_id, tenant) select n.id as l, b.id as r, 7 as tenant from note as n join book as b on true where (n.tenant = 7)"},
		{"insert into note_about (left_id, right_id) select distinct 1 as tenant, b.id as tenant0 from book as b", "insert into note_about (left_id, right_id, tenant) select distinct 1 as tenant, b.id as tenant0, 7 as tenant1 from book as b"},
		// Updates and deletes concern rows of the tenant.
		{"update note as n set body = 'x'", "update note as n set body = 'x' where (n.tenant = 7)"},
		{"update note as n set book_id = (select max(o.tenant) as x from note as o) where (n.tenant = 3)", "update note as n set book_id = (select max(o.tenant) as x from note as o where (o.tenant = 7)) where ((n.tenant = 7) and (n.tenant = 3))"},
		{"delete from note_likes as l", "delete from note_likes as l where (l.tenant = 7)"},
		{"delete from memo as l where exists (select 1 as x from note as o where (o.id = l.id))", "delete from memo as l where ((l.tenant = 7) and exists (select 1 as x from note as o where ((o.tenant = 7) and (o.id = l.id))))"},
	} {
		st := parse(t, m, quoted(x[0]))
		before := clone(st)
		got, err := cache.Scope(m, st, 7)
		must(t, err)
		must(t, sql.Check(tables(t, m), got))
		expect(t, st, before)
		wanted := x[1]
		if wanted == "" {
			wanted = x[0]
		}
		printed, err := sql.Print(tables(t, m), got, api.DialectPlain)
		must(t, err)
		expect(t, short(printed), wanted)
		// Z2: the result shares no memory with the statement.
		wipe(&st)
		again, err := sql.Print(tables(t, m), got, api.DialectPlain)
		must(t, err)
		expect(t, again, printed)
	}
}

// P8.13: what has been asked of one tenant does not see others.
func TestScopedRows(t *testing.T) {
	m := library(t)
	d, err := schema.Rows(m, shelf())
	must(t, err)
	for s, want := range map[string][][]api.Value{
		"select n.body as x from note as n order by n.body desc":                                                                     {row(text("y")), row(text("x"))},
		"select count(*) as x from note as n where (n.tenant = 2)":                                                                   {row(integer(0))},
		"select b.name as x, n.body as y from book as b left join note as n on (n.book_id = b.id)":                                   {row(text("a"), text("x")), row(text("b"), null)},
		"select row_number() over (order by n.book_id) as x, n.body as y from note as n":                                             {row(integer(1), text("y")), row(integer(2), text("x"))},
		"select max(n.tenant) as x, sum((select count(*) as y from note_likes as l where (l.left_id = n.id))) as z from note as n":   {row(integer(1), integer(1))},
		"select n.book_id as x, count(*) as y from note as n group by n.book_id having (n.book_id is null)":                          {row(null, integer(1))},
		"select x.id as x from (select n.id as id, n.tenant as tenant from note as n) as x where (x.tenant in (1, 2)) order by x.id": {row(integer(1)), row(integer(2))},
	} {
		st, err := cache.Scope(m, parse(t, m, quoted(s)), 1)
		must(t, err)
		got, err := sql.Answer(tables(t, m), d, st, nil)
		must(t, err)
		expect(t, got, want)
	}
}

// P8.13: the errors of Scope in their order.
func TestErrorsOfScope(t *testing.T) {
	type args struct {
		M      api.Model
		St     api.Statement
		Tenant int
	}
	m := library(t)
	check := func(x args) api.Errno {
		st, err := cache.Scope(x.M, x.St, x.Tenant)
		if err != api.OK && !same(st, api.Statement{}) {
			t.Error(st)
		}
		return err
	}
	update := parse(t, m, quoted("update note as n set body = (select o.body as x from note as o limit 1) where (n.id = 1)"))
	faults := []fault[args]{
		{"m", func(x *args) { x.M.Entities[0].Name = "A" }, api.ErrName},
		{"tenant", func(x *args) { x.Tenant = 0 }, api.ErrArg},
		{"tenant", func(x *args) { x.Tenant = -1 }, api.ErrArg},
		{"tenant", func(x *args) { x.Tenant = api.MaxInt + 1 }, api.ErrArg},
		{"kind", func(x *args) { x.St.Kind = 9 }, api.ErrKind},
		{"params", func(x *args) { x.St.Params = []int{0} }, api.ErrKind},
		{"table", func(x *args) { x.St.Table = "history_" }, api.ErrName},
		{"name", func(x *args) { x.St.Name = long(api.MaxTall + 1) }, api.ErrName},
		{"columns", func(x *args) { x.St.Columns[0] = "x" }, api.ErrName},
		{"columns", func(x *args) { x.St.Columns[0] = "tenant"; x.St.Sets[0] = lit(integer(1)) }, api.ErrTenant},
		{"name", func(x *args) { x.St.Name = long(api.MaxTall - 1) }, api.ErrLarge},
		{"name", func(x *args) { x.St.Sets[0].Sub[0].From[0].Name = long(api.MaxTall - 1) }, api.ErrLarge},
	}
	// Without conditions that name what gets another name.
	update.Where, update.Sets[0].Sub[0].Items[0].Expr = nil, lit(text("x"))
	tryFaults(t, args{m, update, 1}, check, faults)
	for s, e := range map[string]api.Errno{
		"update book as b set name = 'x'": api.ErrTenant, "delete from book as b": api.ErrTenant, "delete from book_near as b": api.ErrTenant, "insert into book_near (left_id, right_id) values (1, 1)": api.ErrTenant,
		"insert into book (id, version, type, name) select n.id as a, 1 as b, 'book' as c, n.body as d from note as n": api.ErrTenant,
		"insert into note_likes (tenant, left_id, right_id) values (1, 1, 1)":                                          api.ErrTenant,
		"insert into note_likes (left_id, right_id, tenant) select 1 as a, 1 as b, 1 as c":                             api.ErrTenant,
		"update note_likes as l set tenant = 1":                                                                        api.ErrTenant,
		"delete from note as n where (n.tenant = 3)":                                                                   api.OK,
		"select b.name as x from book as b":                                                                            api.OK,
	} {
		if err := check(args{m, parse(t, m, quoted(s)), 1}); err != e {
			t.Error(s, err)
		}
	}
	// ErrTenant comes ahead of ErrLarge.
	st := parse(t, m, quoted("delete from book as b where exists (select 1 as x from note as n)"))
	st.Where[0].Sub[0].From[0].Name = long(api.MaxTall)
	want(t, check(args{m, st, 1}), api.ErrTenant)
}

// partsOf is the number of parts of a statement, as P4.1 counts them, and how many of them are within one another.
func partsOf(st api.Statement) (count, levels int) {
	var exprs func(l []api.Expr, level int)
	var query func(q api.Select, level int)
	add := func(level int) {
		count++
		levels = max(levels, level)
	}
	source := func(x api.Source, level int) {
		add(level)
		for _, q := range x.Sub {
			query(q, level+1)
		}
	}
	orders := func(l []api.Order, level int) {
		for _, o := range l {
			add(level)
			exprs([]api.Expr{o.Expr}, level+1)
		}
	}
	exprs = func(l []api.Expr, level int) {
		for _, e := range l {
			add(level)
			exprs(e.Args, level+1)
			exprs(e.Group, level+1)
			orders(e.Order, level+1)
			for _, q := range e.Sub {
				query(q, level+1)
			}
		}
	}
	query = func(q api.Select, level int) {
		add(level)
		for _, x := range q.Items {
			add(level + 1)
			exprs([]api.Expr{x.Expr}, level+2)
		}
		for _, x := range q.From {
			source(x, level+1)
		}
		for _, x := range q.Joins {
			source(x.Source, level+1)
			exprs([]api.Expr{x.On}, level+1)
		}
		for _, l := range [][]api.Expr{q.Where, q.Group, q.Having} {
			exprs(l, level+1)
		}
		orders(q.Order, level+1)
	}
	for _, q := range st.Select {
		query(q, 1)
	}
	for _, l := range append(st.Rows, st.Sets, st.Where) {
		exprs(l, 1)
	}
	return count, levels
}

// P8.13: the limits, and what is at them.
func TestLimitsOfScope(t *testing.T) {
	m := library(t)
	try := func(st api.Statement, e api.Errno) {
		t.Helper()
		must(t, sql.Check(tables(t, m), st))
		got, err := cache.Scope(m, st, 1)
		want(t, err, e)
		if err == api.OK {
			want(t, sql.Check(tables(t, m), got), api.OK)
		}
	}
	// Names, of sources and of an updated table. (That of one from which rows are deleted is no such.)
	for n, e := range map[int]api.Errno{api.MaxTall - 2: api.OK, api.MaxTall - 1: api.ErrLarge, api.MaxTall: api.ErrLarge} {
		name := long(n)
		for _, s := range []string{
			"select 1 as x from note as N", "select 1 as x from book as N", "select 1 as x from book as b join note as N on true", "select 1 as x from (select 1 as y) as N", "select 1 as x from (select 1 as y from book as N) as b",
			"select exists (select 1 as x from note as N) as x", "update note as N set body = 'x'", "update note as n set body = 'x' where exists (select 1 as x from book as N)",
			"insert into note_likes (left_id, right_id) select 1 as a, 2 as b from book as N", "delete from note as n where exists (select 1 as x from note as N)",
		} {
			try(parse(t, m, strings.ReplaceAll(quoted(strings.ReplaceAll(s, "N", "nnn")), "nnn", name)), e)
		}
		try(parse(t, m, strings.ReplaceAll(quoted("delete from note as nnn"), "nnn", name)), api.OK)
	}
	for count, e := range map[int]api.Errno{api.MaxBig / 4: api.OK, api.MaxBig/4 + 1: api.ErrLarge} {
		for _, st := range []api.Statement{wide(t, m, count), crowded(t, m, count), many(count)} {
			n, _ := partsOf(st)
			expect(t, n, count)
			try(st, e)
		}
	}
	for level, e := range map[int]api.Errno{api.MaxLevels / 2: api.OK, api.MaxLevels/2 + 1: api.ErrLarge} {
		for _, st := range []api.Statement{deep(t, m, level), deepSources(t, m, level)} {
			_, n := partsOf(st)
			expect(t, n, level)
			try(st, e)
		}
	}
	// No table of a model has so many columns that it could not be a source.
	if api.MaxColumns > api.MaxItems {
		t.Error("tables can have too many columns")
	}
}

// wide is a select with so many parts in its condition.
func wide(t *testing.T, m api.Model, count int) api.Statement {
	st := parse(t, m, quoted("select 1 as x from note as n where (1 in (2, 3))"))
	n, _ := partsOf(st)
	for range count - n {
		st.Select[0].Where[0].Args = append(st.Select[0].Where[0].Args, lit(integer(5)))
	}
	return st
}

// crowded is a select with so many parts, as many of them as possible sources.
func crowded(t *testing.T, m api.Model, count int) api.Statement {
	st := parse(t, m, quoted("select 1 as x from note as n"))
	q := &st.Select[0]
	inner := 0
	for {
		n, _ := partsOf(st)
		left := count - n
		switch {
		case left <= 1:
			if left == 1 {
				st.Select[0].Group = []api.Expr{lit(integer(1))}
			}
			return st
		case len(q.Joins) < api.MaxSources-1 || left < 10:
			name := "s" + strings.Repeat("x", inner) + string(rune('a'+len(q.Joins)/26%26)) + string(rune('a'+len(q.Joins)%26))
			q.Joins = append(q.Joins, api.Join{Left: left%4 < 2, Source: api.Source{Name: name, Table: "note"}, On: lit(api.Value{Kind: api.Bool, N: 1})})
		default:
			inner++
			more := parse(t, m, quoted("select 1 as x from note as "+strings.Repeat("y", inner))).Select[0]
			st.Select[0].Order = append(st.Select[0].Order, api.Order{Expr: api.Expr{Kind: api.XExists, Sub: []api.Select{more}}})
			q = &st.Select[0].Order[inner-1].Expr.Sub[0]
		}
	}
}

// many is an insert with so many rows, each of one part.
func many(count int) api.Statement {
	st := api.Statement{Kind: api.StInsert, Table: "note", Columns: []string{"id"}}
	for range count {
		st.Rows = append(st.Rows, []api.Expr{lit(integer(1))})
	}
	return st
}

// deep is a delete with so many levels, each of them as far as possible a select with a condition.
func deep(t *testing.T, m api.Model, level int) api.Statement {
	st := parse(t, m, quoted("delete from note as n"))
	l := &st.Where
	for level > 3 {
		more := parse(t, m, quoted("select 1 as x from note as "+strings.Repeat("y", level/2))).Select[0]
		*l = []api.Expr{{Kind: api.XExists, Sub: []api.Select{more}}}
		l = &(*l)[0].Sub[0].Where
		level -= 2
	}
	*l = []api.Expr{lit(api.Value{Kind: api.Bool, N: 1})}
	for range level - 1 {
		*l = []api.Expr{op(api.OpNot, (*l)[0])}
	}
	return st
}

// deepSources is a select with so many levels of sources.
func deepSources(t *testing.T, m api.Model, level int) api.Statement {
	st := parse(t, m, quoted("select 1 as x from note as n"))
	if level%2 == 0 {
		st.Select[0].Items[0].Expr = op(api.OpNeg, lit(integer(1)))
	}
	for n := 3 + (level+1)%2; n < level; n += 2 {
		st.Select = []api.Select{{Items: []api.Item{{Name: "x", Expr: lit(integer(1))}}, From: []api.Source{{Name: "s", Sub: st.Select}}, Limit: -1}}
	}
	return st
}

// P8.13: what finds become as statements, and are then restricted, is what they are for the part of a tenant.
func TestScopedFinds(t *testing.T) {
	found := 0
	randomly(t, 10, func(t *testing.T, r *maker) {
		w := r.world()
		d, err := schema.Rows(r.m, w)
		must(t, err)
		for range 20 {
			f, params := r.find(t)
			f.Tenant = 0
			st, err := query.Compile(r.m, f, []int{api.Text})
			must(t, err)
			tenant := 1 + r.Intn(tenants)
			scoped, err := cache.Scope(r.m, st, tenant)
			if err == api.ErrLarge {
				continue
			}
			part, e := cache.Part(r.m, w, tenant)
			must(t, err, e)
			wanted, err := query.Answer(r.m, part, f, params)
			must(t, err)
			got, err := sql.Answer(tables(t, r.m), d, scoped, params)
			must(t, err)
			expect(t, got, wanted)
			found += len(got)
		}
	})
	if found < 100 && !testing.Short() {
		t.Error("too little was found", found)
	}
}
