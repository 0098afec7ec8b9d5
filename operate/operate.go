// Package operate makes functions of the parts of scalar expressions: each of them gives the value of a part for what it depends on, whatever that is, by the functions of its Args.
package operate

import (
	"dumbwaiter/api"
	"dumbwaiter/value"
)

// Operation returns the function of an XOp.
func Operation[C ~func(F) api.Value, F any](e api.Expr, args []C) C {
	switch e.Op {
	case api.OpAnd:
		return and(args[0], args[1])
	case api.OpOr:
		return or(args[0], args[1])
	case api.OpCoalesce:
		return coalesce(args)
	case api.OpPart:
		return func(f F) api.Value { return value.Part(args[0](f), args[1](f), args[2](f)) }
	}
	if len(args) == 1 {
		apply := operationsOfOne(e.N)[e.Op]
		return func(f F) api.Value { return apply(args[0](f)) }
	}
	apply := operationsOfTwo()[e.Op]
	return func(f F) api.Value { return apply(args[0](f), args[1](f)) }
}

// operationsOfOne returns the operations with one Arg, and the number N.
func operationsOfOne(n int) map[int]func(a api.Value) api.Value {
	return map[int]func(a api.Value) api.Value{
		api.OpNot:    value.Not,
		api.OpNull:   func(a api.Value) api.Value { return value.Bool(a.Kind == api.Null) },
		api.OpNeg:    value.Neg,
		api.OpLower:  value.Lower,
		api.OpUpper:  value.Upper,
		api.OpLength: value.Length,
		api.OpTrunc:  func(a api.Value) api.Value { return value.Trunc(a, n) },
		api.OpUnit:   func(a api.Value) api.Value { return value.Unit(a, n) },
		api.OpCast:   func(a api.Value) api.Value { return value.Cast(a, n) },
	}
}

// operationsOfTwo returns the operations with two Args, but OpAnd and OpOr.
func operationsOfTwo() map[int]func(a, b api.Value) api.Value {
	return map[int]func(a, b api.Value) api.Value{
		api.OpEqual:   value.Equal,
		api.OpUnequal: func(a, b api.Value) api.Value { return value.Not(value.Equal(a, b)) },
		api.OpLess:    value.Less,
		api.OpAtMost:  func(a, b api.Value) api.Value { return value.Not(value.Less(b, a)) },
		api.OpGreater: func(a, b api.Value) api.Value { return value.Less(b, a) },
		api.OpAtLeast: func(a, b api.Value) api.Value { return value.Not(value.Less(a, b)) },
		api.OpSame:    value.Same,
		api.OpAdd:     value.Add,
		api.OpSub:     value.Sub,
		api.OpMul:     value.Mul,
		api.OpDiv:     value.Div,
		api.OpMod:     value.Mod,
		api.OpConcat:  value.Concat,
		api.OpLike:    value.Like,
	}
}

// and returns the function of OpAnd. The second Arg is not asked if the first one decides, as it can be a select.
func and[C ~func(F) api.Value, F any](a, b C) C {
	return func(f F) api.Value {
		v := a(f)
		if v == value.Bool(false) {
			return v
		}
		return value.And(v, b(f))
	}
}

// or returns the function of OpOr. The second Arg is not asked if the first one decides.
func or[C ~func(F) api.Value, F any](a, b C) C {
	return func(f F) api.Value {
		v := a(f)
		if IsTrue(v) {
			return v
		}
		return value.Or(v, b(f))
	}
}

// coalesce returns the function of OpCoalesce.
func coalesce[C ~func(F) api.Value, F any](args []C) C {
	return func(f F) api.Value {
		for _, c := range args {
			if v := c(f); v.Kind != api.Null {
				return v
			}
		}
		return api.Value{}
	}
}

// Choice returns the function of an XCase.
func Choice[C ~func(F) api.Value, F any](args []C) C {
	last := len(args) - 1
	return func(f F) api.Value {
		for i := 0; i < last; i += 2 {
			if IsTrue(args[i](f)) {
				return args[i+1](f)
			}
		}
		return args[last](f)
	}
}

// In returns the function of an XIn without Sub.
func In[C ~func(F) api.Value, F any](args []C) C {
	return func(f F) api.Value {
		values := make([]api.Value, len(args))
		for i, c := range args {
			values[i] = c(f)
		}
		return value.In(values[0], values[1:])
	}
}

// IsTrue reports whether a value is the Bool true.
func IsTrue(v api.Value) bool { return v == value.Bool(true) }
