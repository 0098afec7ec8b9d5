package sql

import "dumbwaiter/api"

// ReadText reads the statement of a text, whether Check accepts it or not.
func ReadText(text string, dialect int) (st api.Statement, ok bool) {
	p := &parser{dialect: dialectOf(dialect), rest: text}
	ok = finishes(func() {
		st = p.statement()
		p.require(p.rest == "")
	})
	return st, ok
}

// WriteText writes a statement that ReadText has read.
func WriteText(st api.Statement, dialect int) (string, bool) {
	p := newPrinter(dialectOf(dialect))
	ok := finishes(func() { p.statement(st) })
	return string(p.text), ok
}
