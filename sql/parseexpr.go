package sql

import (
	"slices"
	"strings"

	"dumbwaiter/api"
	"dumbwaiter/value"
)

// exprs reads a list of expressions.
func (p *parser) exprs() []api.Expr { return listOf(p, p.expr) }

// expr reads an expression.
func (p *parser) expr() api.Expr {
	p.enter()
	e := p.part()
	p.depth--
	return e
}

// part reads an expression by what it begins with.
func (p *parser) part() api.Expr {
	if v, ok := p.value(); ok {
		return api.Expr{Kind: api.XValue, Value: v}
	}
	switch {
	case p.has(p.open):
		e := api.Expr{Kind: api.XColumn, Source: p.name()}
		p.need(".")
		e.Name = p.name()
		return e
	case p.take(p.param):
		n := p.number()
		p.require(n >= 1 && n <= maxNumber)
		return api.Expr{Kind: api.XParam, N: n - 1}
	case p.take("exists ("):
		return api.Expr{Kind: api.XExists, Sub: p.sub()}
	case p.has("(select "):
		p.need("(")
		return api.Expr{Kind: api.XScalar, Sub: p.sub()}
	case p.id == api.DialectBracket && p.take("iif("):
		return p.choice()
	case p.id != api.DialectBracket && p.take("case"):
		return p.cases()
	case p.take("coalesce("):
		e := api.Expr{Kind: api.XOp, Op: api.OpCoalesce, Args: p.exprs()}
		p.require(len(e.Args) >= 2)
		p.need(")")
		return e
	}
	if e, ok := p.count(); ok {
		return e
	}
	return p.operation()
}

// sub reads a select, and the parenthesis behind it.
func (p *parser) sub() []api.Select {
	q := p.query()
	p.need(")")
	return []api.Select{q}
}

// value reads a value, if one is next.
func (p *parser) value() (api.Value, bool) {
	switch {
	case p.take(p.truth):
		return value.Bool(true), true
	case p.take(p.untrue):
		return value.Bool(false), true
	case p.take("null"):
		return api.Value{}, true
	case p.has("'"):
		return api.Value{Kind: api.Text, S: p.text()}, true
	case p.take(p.moment[0]):
		return p.momentBehind(), true
	case p.has("-") || p.rest != "" && p.rest[0] >= '0' && p.rest[0] <= '9':
		return api.Value{Kind: api.Int, N: p.number()}, true
	}
	return api.Value{}, false
}

// text reads a Text, which ends with a quote that stands for itself.
func (p *parser) text() string {
	p.need("'")
	var b strings.Builder
	for !p.isQuote() {
		if p.id == api.DialectTick {
			p.require(!p.take(`\`) || p.has(`\`) || p.has("'"))
		} else {
			p.take("'")
		}
		p.require(p.rest != "")
		b.WriteString(p.skip(1))
	}
	p.need("'")
	v := api.Value{Kind: api.Text, S: b.String()}
	p.require(value.Check(api.Text, v) == api.OK)
	return v.S
}

// isQuote reports whether a quote is next that is not the first one of two, where these stand for one.
func (p *parser) isQuote() bool {
	return p.has("'") && (p.id == api.DialectTick || !p.has("''"))
}

// momentBehind reads a Moment whose first bytes have been taken.
func (p *parser) momentBehind() api.Value {
	end := strings.Index(p.rest, p.moment[1])
	p.require(end >= 0)
	v, err := value.Read("@" + p.skip(end))
	p.require(err == api.OK)
	p.need(p.moment[1])
	return v
}

// cases reads what is behind the first word of an XCase.
func (p *parser) cases() api.Expr {
	e := api.Expr{Kind: api.XCase}
	for p.take(" when ") {
		e.Args = append(e.Args, p.expr())
		p.need(" then ")
		e.Args = append(e.Args, p.expr())
	}
	p.require(len(e.Args) > 0)
	p.need(" else ")
	e.Args = append(e.Args, p.expr())
	p.need(" end")
	return e
}

// choice reads what is behind the first word of an iif. Further ones in the place of its last Arg are read in the same loop: an XCase with many conditions is written so, without being nested itself.
func (p *parser) choice() api.Expr {
	var l [][2]api.Expr
	for more := true; more; more = p.take("iif(") {
		condition := p.expr()
		p.need(", ")
		l = append(l, [2]api.Expr{condition, p.expr()})
		p.need(", ")
	}
	e := p.expr()
	for _, pair := range slices.Backward(l) {
		p.need(")")
		e = api.Expr{Kind: api.XCase, Args: []api.Expr{pair[0], pair[1], e}}
	}
	return e
}

// count reads an XAgg or XWindow, if one is next.
func (p *parser) count() (api.Expr, bool) {
	if p.take("count(*)") {
		return api.Expr{Kind: api.XAgg, Op: api.AggRows}, true
	}
	for op := api.WinRow; op <= api.WinRank; op++ {
		if p.take(countWord(op) + "() over (") {
			return p.window(op, nil), true
		}
	}
	for op := api.AggCount; op <= api.AggMost; op++ {
		if p.take(countWord(op) + "(") {
			return p.aggregate(op), true
		}
	}
	return api.Expr{}, false
}

// aggregate reads what is behind the word of an XAgg, or of an XWindow with the same word.
func (p *parser) aggregate(op int) api.Expr {
	e := api.Expr{Kind: api.XAgg, Op: op, Distinct: p.take("distinct "), Args: []api.Expr{p.expr()}}
	p.need(")")
	if e.Distinct || !p.take(" over (") {
		return e
	}
	switch op {
	case api.AggCount:
		return p.window(api.WinCount, e.Args)
	case api.AggSum:
		return p.window(api.WinSum, e.Args)
	}
	panic(unfinished{})
}

// window reads what is within the parentheses of an XWindow, and the last one of these.
func (p *parser) window(op int, args []api.Expr) api.Expr {
	e := api.Expr{Kind: api.XWindow, Op: op, Args: args}
	if p.take("partition by ") {
		e.Group = p.exprs()
		p.require(p.take(" ") == p.has("order by "))
	}
	if p.take("order by ") {
		e.Order = listOf(p, p.order)
	}
	p.need(")")
	return e
}

// operation reads an XOp, or an XIn, whose form begins like those of operations.
func (p *parser) operation() api.Expr {
	e := api.Expr{Kind: api.XOp}
	forms := p.next(p.forms, 0)
	for i := 1; ; i++ {
		e.Args = append(e.Args, p.expr())
		if i == 1 && forms[0].texts[0] == "(" && p.take(" in (") {
			return p.among(e.Args)
		}
		forms = p.next(forms, i)
		if len(forms[0].texts) == i+1 {
			e.Op, e.N = forms[0].op, forms[0].n
			return e
		}
	}
}

// next takes the text number i of some forms, and returns those that have it: the longest text that is next.
func (p *parser) next(forms []form, i int) []form {
	longest := ""
	for _, x := range forms {
		if p.has(x.texts[i]) && len(x.texts[i]) > len(longest) {
			longest = x.texts[i]
		}
	}
	p.require(longest != "")
	p.need(longest)
	fitting := slices.Clone(forms)
	return slices.DeleteFunc(fitting, func(x form) bool { return x.texts[i] != longest })
}

// among reads the rest of an XIn.
func (p *parser) among(args []api.Expr) api.Expr {
	e := api.Expr{Kind: api.XIn, Args: args}
	if p.has("select ") {
		e.Sub = []api.Select{p.query()}
	} else {
		e.Args = append(e.Args, p.exprs()...)
	}
	p.need("))")
	return e
}
