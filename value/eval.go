package value

import (
	"dumbwaiter/api"
)

// facts are the values of what an expression can name.
type facts struct {
	scope  scope
	row    []api.Value
	params []api.Value
}

// Eval returns the value of a scalar expression.
func Eval(e api.Expr, columns []api.Cell, row []api.Value, params []api.Value) (api.Value, api.Errno) {
	kinds := make([]int, len(params))
	for i, v := range params {
		kinds[i] = clean(v).Kind
	}
	s := scope{columns, kinds}
	if _, err := s.kindOfWhole(e); err != api.OK {
		return api.Value{}, err
	}
	if len(row) != len(columns) {
		return api.Value{}, api.ErrForm
	}
	return facts{s, row, params}.value(e), api.OK
}

// value returns the value of a part of an expression that has a kind.
func (f facts) value(e api.Expr) api.Value {
	switch e.Kind {
	case api.XValue:
		return e.Value
	case api.XParam:
		return clean(f.params[e.N])
	case api.XColumn:
		return clean(f.row[f.scope.column(e)])
	}
	args := make([]api.Value, len(e.Args))
	for i, arg := range e.Args {
		args[i] = f.value(arg)
	}
	switch e.Kind {
	case api.XOp:
		return operate(e.Op, e.N, args)
	case api.XCase:
		return choose(args)
	}
	return In(args[0], args[1:])
}

// choose returns the value of an XCase with the values of its Args.
func choose(args []api.Value) api.Value {
	last := len(args) - 1
	for i := 0; i < last; i += 2 {
		if isTrue(args[i]) {
			return args[i+1]
		}
	}
	return args[last]
}

// operate returns the value of an XOp with the values of its Args.
func operate(op, n int, args []api.Value) api.Value {
	switch op {
	case api.OpCoalesce:
		return coalesce(args)
	case api.OpPart:
		return Part(args[0], args[1], args[2])
	case api.OpTrunc:
		return Trunc(args[0], n)
	case api.OpUnit:
		return Unit(args[0], n)
	case api.OpCast:
		return Cast(args[0], n)
	}
	if len(args) == 1 {
		return operateOne(op, args[0])
	}
	return operateTwo(op, args[0], args[1])
}

// coalesce returns the first value that is not null.
func coalesce(args []api.Value) api.Value {
	for _, v := range args {
		if v.Kind != api.Null {
			return v
		}
	}
	return api.Value{}
}

// operateOne returns the value of an operation with one Arg and without a number.
func operateOne(op int, a api.Value) api.Value {
	switch op {
	case api.OpNot:
		return Not(a)
	case api.OpNull:
		return Bool(a.Kind == api.Null)
	case api.OpNeg:
		return Neg(a)
	case api.OpLower:
		return Lower(a)
	case api.OpUpper:
		return Upper(a)
	}
	return Length(a)
}

// operateTwo returns the value of an operation with two Args.
func operateTwo(op int, a, b api.Value) api.Value {
	switch op {
	case api.OpAnd:
		return And(a, b)
	case api.OpOr:
		return Or(a, b)
	case api.OpEqual:
		return Equal(a, b)
	case api.OpUnequal:
		return Not(Equal(a, b))
	case api.OpLess:
		return Less(a, b)
	case api.OpAtMost:
		return Not(Less(b, a))
	case api.OpGreater:
		return Less(b, a)
	case api.OpAtLeast:
		return Not(Less(a, b))
	case api.OpSame:
		return Same(a, b)
	case api.OpAdd:
		return Add(a, b)
	case api.OpSub:
		return Sub(a, b)
	case api.OpMul:
		return Mul(a, b)
	case api.OpDiv:
		return Div(a, b)
	case api.OpMod:
		return Mod(a, b)
	case api.OpConcat:
		return Concat(a, b)
	}
	return Like(a, b)
}
