package value

import (
	"dumbwaiter/api"
)

// scope is what an expression can name: columns, and parameters with these kinds.
type scope struct {
	columns []api.Cell
	params  []int
}

// KindOf returns the kind of a scalar expression.
func KindOf(e api.Expr, columns []api.Cell, params []int) (int, api.Errno) {
	for _, kind := range params {
		if !isKind(kind) {
			return 0, api.ErrKind
		}
	}
	return scope{columns, params}.kindOfWhole(e)
}

// kindOfWhole returns the kind of an expression. Kinds of parameters can be Null here.
func (s scope) kindOfWhole(e api.Expr) (int, api.Errno) {
	if tooLarge(e) {
		return 0, api.ErrLarge
	}
	return s.kindOf(e)
}

// kindOf returns the kind of a part.
func (s scope) kindOf(e api.Expr) (int, api.Errno) {
	var kinds []int
	for _, arg := range e.Args {
		kind, err := s.kindOf(arg)
		if err != api.OK {
			return 0, err
		}
		kinds = append(kinds, kind)
	}
	if err := checkPart(e); err != api.OK {
		return 0, err
	}
	switch e.Kind {
	case api.XValue:
		return e.Value.Kind, api.OK
	case api.XParam:
		if e.N < 0 || e.N >= len(s.params) {
			return 0, api.ErrArg
		}
		return s.params[e.N], api.OK
	case api.XColumn:
		i := s.column(e)
		if i < 0 {
			return 0, api.ErrName
		}
		return s.columns[i].Kind, api.OK
	}
	kind, ok := kindOfArgs(e, kinds)
	if !ok {
		return 0, api.ErrType
	}
	return kind, api.OK
}

// column returns the position of the first column that an XColumn names, -1 if there is none.
func (s scope) column(e api.Expr) int {
	for i, c := range s.columns {
		if c.Source == e.Source && c.Name == e.Name {
			return i
		}
	}
	return -1
}

// kindOfArgs returns the kind of a part whose Args have these kinds, if they fit.
func kindOfArgs(e api.Expr, kinds []int) (int, bool) {
	switch e.Kind {
	case api.XOp:
		return operationKind(e.Op, e.N, kinds)
	case api.XCase:
		return caseKind(kinds)
	}
	_, ok := commonKind(kinds)
	return api.Bool, ok
}

// caseKind returns the kind of an XCase whose Args have these kinds, if they fit.
func caseKind(kinds []int) (int, bool) {
	var values []int
	for i, kind := range kinds {
		if i%2 == 1 || i == len(kinds)-1 {
			values = append(values, kind)
		} else if !fits(kind, api.Bool) {
			return 0, false
		}
	}
	return commonKind(values)
}

// tooLarge reports whether an expression has too many parts, or too many within one another.
func tooLarge(e api.Expr) bool {
	left := api.MaxParts
	return exceeds(e, api.MaxDeep, &left)
}

// exceeds takes the parts of an expression off left, and reports whether there are more, or more than so many levels. It looks at no part beyond them.
func exceeds(e api.Expr, levels int, left *int) bool {
	if levels == 0 || *left == 0 {
		return true
	}
	*left--
	for _, arg := range e.Args {
		if exceeds(arg, levels-1, left) {
			return true
		}
	}
	return false
}

// checkPart returns the error of a part itself, apart from those that ask for parameters, columns and the kinds of Args.
func checkPart(e api.Expr) api.Errno {
	switch {
	case !isPart(e):
		return api.ErrKind
	case !isPlain(e) || !hasArgs(e):
		return api.ErrForm
	case e.Kind == api.XValue:
		return checkLiteral(e.Value)
	case e.Kind == api.XOp && !hasNumber(e):
		return api.ErrArg
	}
	return api.OK
}

// checkLiteral returns the error of the Value of an XValue.
func checkLiteral(v api.Value) api.Errno {
	if !formed(v) {
		return api.ErrForm
	}
	if v.Kind == api.Null {
		return api.OK
	}
	return Check(v.Kind, v)
}

// isPart reports whether a part has a kind of scalar expressions, and an operation that there is.
func isPart(e api.Expr) bool {
	known := e.Kind >= api.XValue && e.Kind <= api.XIn
	return known && len(e.Sub) == 0 && (e.Kind != api.XOp || isOperation(e.Op))
}

// isPlain reports whether the fields that a part does not use are zero, apart from Args and Sub.
func isPlain(e api.Expr) bool {
	usesOp := e.Kind == api.XOp
	usesN := e.Kind == api.XParam || usesOp && usesNumber(e.Op)
	usesNames := e.Kind == api.XColumn
	switch {
	case !usesOp && e.Op != 0, !usesN && e.N != 0:
		return false
	case e.Kind != api.XValue && e.Value != api.Value{}:
		return false
	case !usesNames && (e.Source != "" || e.Name != ""):
		return false
	}
	return !e.Distinct && len(e.Group) == 0 && len(e.Order) == 0
}

// hasArgs reports whether the number of Args is right.
func hasArgs(e api.Expr) bool {
	count := len(e.Args)
	switch e.Kind {
	case api.XOp:
		return canCount(e.Op, count)
	case api.XCase:
		return count >= 3 && count%2 == 1
	case api.XIn:
		return count >= 2
	}
	return count == 0
}

// hasNumber reports whether N of an XOp is a unit, or a kind, where it must be.
func hasNumber(e api.Expr) bool {
	switch e.Op {
	case api.OpTrunc, api.OpUnit:
		return e.N >= api.Second && e.N <= api.Year
	case api.OpCast:
		return isKind(e.N)
	}
	return true
}
