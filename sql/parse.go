package sql

import (
	"slices"
	"strconv"
	"strings"

	"dumbwaiter/api"
)

// Parse reads a statement in a dialect.
func Parse(s api.Schema, text string, dialect int, kinds []int) (api.Statement, api.Errno) {
	switch {
	case !isDialect(dialect):
		return api.Statement{}, api.ErrArg
	case len(text) > api.MaxWritten:
		return api.Statement{}, api.ErrLarge
	}
	p := &parser{dialect: dialectOf(dialect), rest: text}
	var st api.Statement
	whole := func() {
		st = p.statement()
		p.require(p.rest == "")
	}
	if !finishes(whole) {
		return api.Statement{}, api.ErrSyntax
	}
	st.Params = slices.Clone(kinds)
	if err := Check(s, st); err != api.OK {
		return api.Statement{}, err
	}
	return st, api.OK
}

// parser reads parts of statements from the beginning of a text. Its functions panic if there is no such part.
type parser struct {
	dialect
	rest  string
	depth int // of expressions and selects within one another
}

// Limits of texts.
const (
	maxNumber = 1000 // of a parameter
	maxDepth  = 4000 // more than statements have; other texts must not be followed to their end
)

// require panics if a condition does not hold.
func (p *parser) require(holds bool) {
	if !holds {
		panic(unfinished{})
	}
}

// has reports whether a text is next.
func (p *parser) has(s string) bool { return strings.HasPrefix(p.rest, s) }

// take takes a text, if it is next.
func (p *parser) take(s string) bool {
	if !p.has(s) {
		return false
	}
	p.rest = p.rest[len(s):]
	return true
}

// need takes a text that must be next.
func (p *parser) need(s string) { p.require(p.take(s)) }

// enter counts a part within others.
func (p *parser) enter() {
	p.depth++
	p.require(p.depth <= maxDepth)
}

// skip takes some bytes.
func (p *parser) skip(count int) string {
	s := p.rest[:count]
	p.rest = p.rest[count:]
	return s
}

// name reads a name.
func (p *parser) name() string {
	p.need(p.open)
	s := p.skip(wordEnd(p.rest))
	p.require(s != "")
	p.need(p.close)
	return s
}

// number reads an Int.
func (p *parser) number() int {
	end := 0
	for end < len(p.rest) && (p.rest[end] >= '0' && p.rest[end] <= '9' || end == 0 && p.rest[end] == '-') {
		end++
	}
	word := p.skip(end)
	n, err := strconv.Atoi(word)
	p.require(err == nil && strconv.Itoa(n) == word && n >= -api.MaxInt && n <= api.MaxInt)
	return n
}

// numberBut reads an Int that is another one than n.
func (p *parser) numberBut(n int) int {
	m := p.number()
	p.require(m != n)
	return m
}

// listOf reads one or more elements by a function.
func listOf[T any](p *parser, f func() T) []T {
	l := []T{f()}
	for p.take(", ") {
		l = append(l, f())
	}
	return l
}

// statement reads a statement.
func (p *parser) statement() api.Statement {
	switch {
	case p.take("insert into "):
		return p.insert()
	case p.take("update "):
		return p.update()
	case p.take("delete "):
		return p.delete()
	}
	return api.Statement{Kind: api.StSelect, Select: []api.Select{p.query()}}
}

// insert reads what is behind the first words of an insert.
func (p *parser) insert() api.Statement {
	st := api.Statement{Kind: api.StInsert, Table: p.name()}
	p.need(" (")
	st.Columns = listOf(p, p.name)
	p.need(") ")
	if !p.take("values ") {
		st.Select = []api.Select{p.query()}
		return st
	}
	st.Rows = listOf(p, func() []api.Expr {
		p.need("(")
		row := p.exprs()
		p.need(")")
		return row
	})
	return st
}

// update reads what is behind the first word of an update.
func (p *parser) update() api.Statement {
	st := api.Statement{Kind: api.StUpdate}
	if p.id == api.DialectBracket {
		st.Name = p.name()
	} else {
		p.target(&st)
	}
	p.need(" set ")
	st.Sets = listOf(p, func() api.Expr {
		st.Columns = append(st.Columns, p.name())
		p.need(" = ")
		return p.expr()
	})
	if p.id == api.DialectBracket {
		p.need(" from ")
		p.target(&st)
	}
	st.Where = p.condition(" where ")
	return st
}

// delete reads what is behind the first word of a delete.
func (p *parser) delete() api.Statement {
	st := api.Statement{Kind: api.StDelete}
	if p.id != api.DialectPlain {
		st.Name = p.name()
		p.need(" ")
	}
	p.need("from ")
	p.target(&st)
	st.Where = p.condition(" where ")
	return st
}

// target reads the table of an update or delete, and its name, which can stand ahead of it, too.
func (p *parser) target(st *api.Statement) {
	st.Table = p.name()
	p.need(" as ")
	name := p.name()
	p.require(st.Name == "" || st.Name == name)
	st.Name = name
}
