package sql

import (
	"strconv"
	"strings"

	"dumbwaiter/api"
	"dumbwaiter/value"
)

// Print writes a statement in a dialect.
func Print(s api.Schema, st api.Statement, dialect int) (string, api.Errno) {
	if !isDialect(dialect) {
		return "", api.ErrArg
	}
	if err := Check(s, st); err != api.OK {
		return "", err
	}
	p := newPrinter(dialectOf(dialect))
	if !finishes(func() { p.statement(st) }) {
		return "", api.ErrLarge
	}
	return string(p.text), api.OK
}

// Native reports whether what Parse returns for a printed statement is equal to it.
func Native(s api.Schema, st api.Statement, dialect int) (bool, api.Errno) {
	text, err := Print(s, st, dialect)
	if err != api.OK {
		return false, err
	}
	back, err := Parse(s, text, dialect, st.Params)
	return err == api.OK && Equal(st, back), api.OK
}

// printer writes parts of right statements in a dialect. Its functions panic when the text becomes too long: as an element of an order can be written as two, the whole of it could be beyond all bounds.
type printer struct {
	dialect
	texts map[[2]int][]string // of the forms, by operation and number
	text  []byte
}

func newPrinter(d dialect) *printer {
	p := &printer{dialect: d, texts: map[[2]int][]string{}}
	for _, x := range d.forms {
		p.texts[[2]int{x.op, x.n}] = x.texts
	}
	return p
}

// put writes texts.
func (p *printer) put(l ...string) {
	for _, s := range l {
		p.text = append(p.text, s...)
	}
	if len(p.text) > api.MaxWritten {
		panic(unfinished{})
	}
}

// name writes a name.
func (p *printer) name(s string) { p.put(p.open, s, p.close) }

// putList writes the elements of a list by a function.
func putList[T any](p *printer, l []T, f func(x T)) {
	for i, x := range l {
		if i > 0 {
			p.put(", ")
		}
		f(x)
	}
}

func (p *printer) exprs(l []api.Expr) { putList(p, l, p.expr) }

// expr writes an expression.
func (p *printer) expr(e api.Expr) {
	switch e.Kind {
	case api.XValue:
		p.value(e.Value)
	case api.XParam:
		p.put(p.param, strconv.Itoa(e.N+1))
	case api.XColumn:
		p.name(e.Source)
		p.put(".")
		p.name(e.Name)
	case api.XOp:
		p.operation(e)
	case api.XCase:
		p.cases(e.Args)
	case api.XIn:
		p.put("(")
		p.expr(e.Args[0])
		p.put(" in (")
		p.exprs(e.Args[1:])
		p.selects(e.Sub)
		p.put("))")
	case api.XExists:
		p.put("exists (")
		p.selects(e.Sub)
		p.put(")")
	case api.XScalar:
		p.put("(")
		p.selects(e.Sub)
		p.put(")")
	case api.XAgg:
		p.aggregate(e)
	case api.XWindow:
		p.window(e)
	}
}

// value writes a value.
func (p *printer) value(v api.Value) {
	switch {
	case v == value.Bool(true):
		p.put(p.truth)
	case v == value.Bool(false):
		p.put(p.untrue)
	case v.Kind == api.Moment:
		p.put(p.moment[0], strings.TrimPrefix(value.Show(v), "@"), p.moment[1])
	case v.Kind == api.Text && p.id == api.DialectTick:
		p.put("'", strings.NewReplacer(`'`, `\'`, `\`, `\\`).Replace(v.S), "'")
	default:
		p.put(value.Show(v))
	}
}

// operation writes an XOp.
func (p *printer) operation(e api.Expr) {
	if e.Op == api.OpCoalesce {
		p.put("coalesce(")
		p.exprs(e.Args)
		p.put(")")
		return
	}
	texts := p.texts[[2]int{e.Op, e.N}]
	for i, arg := range e.Args {
		p.put(texts[i])
		p.expr(arg)
	}
	p.put(texts[len(e.Args)])
}

// cases writes an XCase with some Args.
func (p *printer) cases(args []api.Expr) {
	if p.id == api.DialectBracket {
		p.choice(args)
		return
	}
	p.put("case")
	for ; len(args) > 1; args = args[2:] {
		p.put(" when ")
		p.expr(args[0])
		p.put(" then ")
		p.expr(args[1])
	}
	p.put(" else ")
	p.expr(args[0])
	p.put(" end")
}

// choice writes conditions and values of an XCase in DialectBracket.
func (p *printer) choice(args []api.Expr) {
	depth := 0
	for ; len(args) > 1; args = args[2:] {
		p.put("iif(")
		p.expr(args[0])
		p.put(", ")
		p.expr(args[1])
		p.put(", ")
		depth++
	}
	p.expr(args[0])
	p.put(strings.Repeat(")", depth))
}

// aggregate writes an XAgg.
func (p *printer) aggregate(e api.Expr) {
	if e.Op == api.AggRows {
		p.put("count(*)")
		return
	}
	p.put(countWord(e.Op), "(")
	if e.Distinct {
		p.put("distinct ")
	}
	p.exprs(e.Args)
	p.put(")")
}

// window writes an XWindow.
func (p *printer) window(e api.Expr) {
	p.put(countWord(e.Op), "(")
	p.exprs(e.Args)
	p.put(") over (")
	if len(e.Group) > 0 {
		p.put("partition by ")
		p.exprs(e.Group)
	}
	if len(e.Group) > 0 && len(e.Order) > 0 {
		p.put(" ")
	}
	if len(e.Order) > 0 {
		p.put("order by ")
		putList(p, e.Order, p.order)
	}
	p.put(")")
}

// order writes an element of an order: as two, if the dialect has another rule for nulls.
func (p *printer) order(o api.Order) {
	if p.id != api.DialectPlain && o.Last != p.lastOf(o.Desc) {
		isNull := api.Expr{Kind: api.XOp, Op: api.OpNull, Args: []api.Expr{o.Expr}}
		p.expr(isNull)
		p.when(!o.Last, " desc")
		p.put(", ")
	}
	p.expr(o.Expr)
	p.when(o.Desc, " desc")
	p.when(p.id == api.DialectPlain && o.Last, " nulls last")
}

// when writes a text if a condition holds.
func (p *printer) when(holds bool, s string) {
	if holds {
		p.put(s)
	}
}
