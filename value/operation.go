package value

import (
	"dumbwaiter/api"
)

// anyKind stands in the table of operations for T: all Args that have it fit one another.
const anyKind = -1

// operation describes an operation of an XOp: the kinds of its first Arg and of the others, and that of the result.
type operation struct {
	name   string
	count  int
	first  int
	others int
	result int
}

// operations are described by their numbers. What does not fit the form of the table (sums, the number of Args of OpCoalesce, the result of OpCast) has functions of its own.
var operations = [...]operation{
	api.OpNot:      {"not", 1, api.Bool, api.Null, api.Bool},
	api.OpAnd:      {"and", 2, api.Bool, api.Bool, api.Bool},
	api.OpOr:       {"or", 2, api.Bool, api.Bool, api.Bool},
	api.OpEqual:    {"equal", 2, anyKind, anyKind, api.Bool},
	api.OpUnequal:  {"unequal", 2, anyKind, anyKind, api.Bool},
	api.OpLess:     {"less", 2, anyKind, anyKind, api.Bool},
	api.OpAtMost:   {"atmost", 2, anyKind, anyKind, api.Bool},
	api.OpGreater:  {"greater", 2, anyKind, anyKind, api.Bool},
	api.OpAtLeast:  {"atleast", 2, anyKind, anyKind, api.Bool},
	api.OpSame:     {"same", 2, anyKind, anyKind, api.Bool},
	api.OpNull:     {"null", 1, anyKind, api.Null, api.Bool},
	api.OpAdd:      {"add", 2, anyKind, anyKind, anyKind},
	api.OpSub:      {"sub", 2, anyKind, anyKind, anyKind},
	api.OpMul:      {"mul", 2, api.Int, api.Int, api.Int},
	api.OpDiv:      {"div", 2, api.Int, api.Int, api.Int},
	api.OpMod:      {"mod", 2, api.Int, api.Int, api.Int},
	api.OpNeg:      {"neg", 1, api.Int, api.Null, api.Int},
	api.OpConcat:   {"concat", 2, api.Text, api.Text, api.Text},
	api.OpLike:     {"like", 2, api.Text, api.Text, api.Bool},
	api.OpLower:    {"lower", 1, api.Text, api.Null, api.Text},
	api.OpUpper:    {"upper", 1, api.Text, api.Null, api.Text},
	api.OpLength:   {"length", 1, api.Text, api.Null, api.Int},
	api.OpPart:     {"part", 3, api.Text, api.Int, api.Text},
	api.OpCoalesce: {"coalesce", 2, anyKind, anyKind, anyKind},
	api.OpTrunc:    {"trunc", 1, api.Moment, api.Null, api.Moment},
	api.OpUnit:     {"unit", 1, api.Moment, api.Null, api.Int},
	api.OpCast:     {"cast", 1, anyKind, api.Null, anyKind},
}

// isOperation reports whether there is an operation with a number.
func isOperation(op int) bool { return op >= api.OpNot && op < len(operations) }

// operationNamed returns the number of the operation with a name, 0 if there is none.
func operationNamed(name string) int {
	for op := range operations {
		if isOperation(op) && operations[op].name == name {
			return op
		}
	}
	return 0
}

// usesNumber reports whether an operation uses the field N.
func usesNumber(op int) bool {
	return op == api.OpTrunc || op == api.OpUnit || op == api.OpCast
}

// canCount reports whether an operation can have so many Args.
func canCount(op, count int) bool {
	if op == api.OpCoalesce {
		return count >= operations[op].count
	}
	return count == operations[op].count
}

// operationKind returns the kind of an operation whose Args have these kinds, if they fit.
func operationKind(op, n int, kinds []int) (int, bool) {
	switch op {
	case api.OpAdd, api.OpSub:
		return sumKind(op, kinds[0], kinds[1])
	case api.OpCast:
		return n, kinds[0] == api.Null || Can(kinds[0], n)
	}
	o := operations[op]
	if !fits(kinds[0], o.first) {
		return 0, false
	}
	for _, kind := range kinds[1:] {
		if !fits(kind, o.others) {
			return 0, false
		}
	}
	if o.first != anyKind {
		return o.result, true
	}
	kind, ok := commonKind(kinds)
	if o.result != anyKind {
		kind = o.result
	}
	return kind, ok
}

// sumKind returns the kind of OpAdd or OpSub of Args of two kinds, if they fit.
func sumKind(op, a, b int) (int, bool) {
	possible := [...]struct{ op, a, b, result int }{
		{api.OpAdd, api.Int, api.Int, api.Int},
		{api.OpAdd, api.Moment, api.Int, api.Moment},
		{api.OpSub, api.Int, api.Int, api.Int},
		{api.OpSub, api.Moment, api.Int, api.Moment},
		{api.OpSub, api.Moment, api.Moment, api.Int},
	}
	for _, p := range possible {
		if p.op != op || !fits(a, p.a) || !fits(b, p.b) {
			continue
		}
		if a == api.Null || b == api.Null {
			return api.Null, true
		}
		return p.result, true
	}
	return 0, false
}

// fits reports whether a kind fits one of the table of operations.
func fits(kind, wanted int) bool {
	return wanted == anyKind || kind == wanted || kind == api.Null
}

// commonKind returns the common kind of kinds, if they fit one another.
func commonKind(kinds []int) (int, bool) {
	common := api.Null
	for _, kind := range kinds {
		if kind == api.Null {
			continue
		}
		if common != api.Null && common != kind {
			return 0, false
		}
		common = kind
	}
	return common, true
}
