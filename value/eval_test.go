package value_test

import (
	"math/rand"
	"strings"
	"testing"

	"dumbwaiter/api"
	"dumbwaiter/value"
)

// P1.13, P1.15: each operation has the value of its function.
func TestEvalOperations(t *testing.T) {
	two := map[int]func(a, b api.Value) api.Value{
		api.OpAnd: value.And, api.OpOr: value.Or,
		api.OpEqual: value.Equal, api.OpUnequal: func(a, b api.Value) api.Value { return value.Not(value.Equal(a, b)) },
		api.OpLess: value.Less, api.OpAtMost: func(a, b api.Value) api.Value { return value.Not(value.Less(b, a)) },
		api.OpGreater: func(a, b api.Value) api.Value { return value.Less(b, a) }, api.OpAtLeast: func(a, b api.Value) api.Value { return value.Not(value.Less(a, b)) },
		api.OpSame: value.Same,
		api.OpAdd:  value.Add, api.OpSub: value.Sub, api.OpMul: value.Mul, api.OpDiv: value.Div, api.OpMod: value.Mod,
		api.OpConcat: value.Concat, api.OpLike: value.Like,
		api.OpCoalesce: func(a, b api.Value) api.Value {
			if a == null {
				return b
			}
			return a
		},
	}
	one := map[int]func(a api.Value) api.Value{
		api.OpNot: value.Not, api.OpNull: func(a api.Value) api.Value { return value.Bool(a == null) }, api.OpNeg: value.Neg,
		api.OpLower: value.Lower, api.OpUpper: value.Upper, api.OpLength: value.Length,
	}
	// Columns without a kind let values of all kinds through.
	columns := []api.Cell{{Name: "x"}, {Name: "y"}}
	for _, a := range ordered() {
		for o, f := range one {
			if got, err := value.Eval(op(o, column("x")), columns, []api.Value{a, null}, nil); err != api.OK || got != f(a) {
				t.Error(o, a, got, err)
			}
		}
		for _, b := range ordered() {
			for o, f := range two {
				if got, err := value.Eval(op(o, column("x"), column("y")), columns, []api.Value{a, b}, nil); err != api.OK || got != f(a, b) {
					t.Error(o, a, b, got, err)
				}
			}
		}
		for n := api.Second; n <= api.Year; n++ {
			if got, err := value.Eval(opN(api.OpTrunc, n, column("x")), columns, []api.Value{a, null}, nil); err != api.OK || got != value.Trunc(a, n) {
				t.Error("trunc", n, a, got, err)
			}
			if got, err := value.Eval(opN(api.OpUnit, n, column("x")), columns, []api.Value{a, null}, nil); err != api.OK || got != value.Unit(a, n) {
				t.Error("unit", n, a, got, err)
			}
			if n > api.Moment {
				continue
			}
			if got, err := value.Eval(opN(api.OpCast, n, column("x")), columns, []api.Value{a, null}, nil); err != api.OK || got != value.Cast(a, n) {
				t.Error("cast", n, a, got, err)
			}
		}
	}
}

// P1.13, P1.15
func TestEval(t *testing.T) {
	columns := kindColumns()
	row := []api.Value{null, boolean(1), integer(7), text("hello"), moment(100), text("first"), integer(2), null}
	params := []api.Value{text("p"), null, integer(3)}
	n, b, i, s := column("n"), column("b"), column("i"), column("t")
	for _, x := range []struct {
		e    api.Expr
		want api.Value
	}{
		{lit(null), null}, {lit(text("a")), text("a")}, {param(0), text("p")}, {param(1), null}, {param(2), integer(3)},
		{i, integer(7)}, {n, null}, {columnOf("x", "i"), text("first")}, {columnOf("x", "only"), null},
		{op(api.OpPart, s, param(2), i), text("lo")}, {op(api.OpPart, s, n, i), null}, {op(api.OpPart, s, lit(integer(1)), lit(integer(3))), text("ell")},
		{op(api.OpAdd, i, param(2)), integer(10)}, {op(api.OpAdd, i, param(1)), null}, {op(api.OpSub, column("m"), i), moment(93)},
		{op(api.OpCoalesce, n, param(1), i, lit(integer(0))), integer(7)}, {op(api.OpCoalesce, n, n, n), null},
		{op(api.OpAtMost, i, lit(integer(7))), boolean(1)}, {op(api.OpAtLeast, i, lit(integer(8))), boolean(0)}, {op(api.OpGreater, i, lit(integer(7))), boolean(0)},
		{cases(b, i, lit(integer(0))), integer(7)}, {cases(op(api.OpNot, b), i, lit(integer(0))), integer(0)}, {cases(n, i, lit(integer(0))), integer(0)},
		{cases(n, lit(integer(1)), b, lit(integer(2)), b, lit(integer(3)), lit(integer(4))), integer(2)}, {cases(b, n, i), null}, {cases(b, lit(integer(1)), b, lit(integer(2)), lit(integer(3))), integer(1)},
		// A value that is true is no condition.
		{cases(op(api.OpNot, b), b, op(api.OpNot, b), op(api.OpNot, b), b), boolean(1)},
		{in(i, lit(integer(1)), param(2)), boolean(0)}, {in(i, lit(integer(7)), n), boolean(1)}, {in(i, n, lit(integer(7))), boolean(1)}, {in(i, lit(integer(1)), n), null}, {in(n, i), null},
	} {
		if got, err := value.Eval(x.e, columns, row, params); err != api.OK || got != x.want {
			t.Error(x, got, err)
		}
	}
}

// P1.15
func TestEvalErrors(t *testing.T) {
	columns := []api.Cell{{Name: "i", Kind: api.Int}, {Name: "b", Kind: api.Bool}}
	row := []api.Value{integer(1), boolean(1)}
	for _, x := range []struct {
		e      api.Expr
		row    []api.Value
		params []api.Value
		want   api.Errno
	}{
		{column("i"), row[:1], nil, api.ErrForm}, {column("i"), nil, nil, api.ErrForm}, {column("i"), append(row, null), nil, api.ErrForm}, {lit(null), row[:1], nil, api.ErrForm},
		{column("x"), nil, nil, api.ErrName}, {param(0), nil, nil, api.ErrArg}, {op(api.OpNot, column("i")), nil, nil, api.ErrType}, {op(api.OpAdd, column("i")), nil, nil, api.ErrForm}, {api.Expr{}, nil, nil, api.ErrKind}, {nots(25), nil, nil, api.ErrLarge},
		{op(api.OpAdd, column("i"), param(0)), row, []api.Value{text("a")}, api.ErrType}, {op(api.OpAdd, column("i"), param(0)), row, []api.Value{null}, api.OK}, {op(api.OpAdd, column("i"), param(0)), row, []api.Value{{Kind: api.Text, N: 1}}, api.OK}, {op(api.OpAdd, column("i"), param(0)), row, []api.Value{{Kind: 9}}, api.OK},
	} {
		if got, err := value.Eval(x.e, columns, x.row, x.params); err != x.want || got != null {
			t.Error(x, got, err)
		}
	}
	for _, x := range partErrors() {
		if got, err := value.Eval(x.e, kindColumns(), nil, []api.Value{integer(1)}); err != x.want || got != null {
			t.Error(x, got, err)
		}
	}
}

// P1.15: values that are not right count as null, those of other kinds as they are.
func TestEvalOfOtherValues(t *testing.T) {
	columns := []api.Cell{{Name: "i", Kind: api.Int}}
	for _, v := range wrong() {
		for _, e := range []api.Expr{column("i"), param(0)} {
			if got, err := value.Eval(e, columns, []api.Value{v}, []api.Value{v}); err != api.OK || got != null {
				t.Error(v, got, err)
			}
			if got, err := value.Eval(op(api.OpNull, e), columns, []api.Value{v}, []api.Value{v}); err != api.OK || got != boolean(1) {
				t.Error(v, got, err)
			}
		}
	}
	for _, x := range []struct {
		e    api.Expr
		want api.Value
	}{
		{column("i"), text("a")}, {op(api.OpAdd, column("i"), lit(integer(1))), null}, {op(api.OpEqual, column("i"), lit(integer(1))), null}, {op(api.OpSame, column("i"), lit(integer(1))), boolean(0)}, {op(api.OpNull, column("i")), boolean(0)}, {opN(api.OpCast, api.Bool, column("i")), null},
	} {
		if got, err := value.Eval(x.e, columns, []api.Value{text("a")}, nil); err != api.OK || got != x.want {
			t.Error(x, got, err)
		}
	}
}

// randomExpr makes expressions of a kind out of kindColumns and two parameters, a Bool and an Int, by the signatures.
func randomExpr(r *rand.Rand, kind, levels int) api.Expr {
	name := kindNames[kind : kind+1]
	if levels <= 1 || r.Intn(4) == 0 {
		switch l := ordered(); r.Intn(4) {
		case 0:
			return lit(null)
		case 1:
			for {
				if v := l[r.Intn(len(l))]; v.Kind == kind {
					return lit(v)
				}
			}
		case 2:
			if kind == api.Bool || kind == api.Int {
				return param(kind - api.Bool)
			}
		}
		return column(name)
	}
	switch r.Intn(8) {
	case 0:
		return cases(randomExpr(r, api.Bool, levels-1), randomExpr(r, kind, levels-1), randomExpr(r, kind, levels-1))
	case 1:
		return op(api.OpCoalesce, randomExpr(r, kind, levels-1), randomExpr(r, kind, levels-1))
	case 2:
		if kind == api.Bool {
			other := 1 + r.Intn(4)
			return in(randomExpr(r, other, levels-1), randomExpr(r, other, levels-1), randomExpr(r, other, levels-1))
		}
	case 3:
		from := 1 + r.Intn(4)
		if value.Can(from, kind) {
			return opN(api.OpCast, kind, randomExpr(r, from, levels-1))
		}
	}
	return randomOperation(r, kind, levels)
}

// randomOperation makes an operation whose result is of a kind.
func randomOperation(r *rand.Rand, kind, levels int) api.Expr {
	for {
		o := 1 + r.Intn(api.OpUnit)
		for _, signature := range strings.Fields(signatures()[o]) {
			args, result, _ := strings.Cut(signature, ">")
			if result != kindNames[kind:kind+1] || r.Intn(2) == 0 {
				continue
			}
			e := op(o)
			for i := range len(args) {
				e.Args = append(e.Args, randomExpr(r, strings.IndexByte(kindNames, args[i]), levels-1))
			}
			if o == api.OpTrunc || o == api.OpUnit {
				e.N = 1 + r.Intn(api.Year)
			}
			return e
		}
	}
}

// P1.14, P1.15: KindOf accepts expressions that are put together by the signatures, and the value is null or of the kind it tells.
func TestEvalHasTheKindOfKindOf(t *testing.T) {
	r := rand.New(rand.NewSource(1))
	row := []api.Value{null, boolean(1), integer(7), text("hello"), moment(100), text("first"), integer(2), null}
	params := []api.Value{boolean(0), integer(3)}
	for range 20000 {
		kind := 1 + r.Intn(4)
		e := randomExpr(r, kind, 1+r.Intn(5))
		got, err := value.KindOf(e, kindColumns(), []int{api.Bool, api.Int})
		if err == api.ErrLarge {
			continue
		}
		if err != api.OK || got != kind && got != api.Null {
			t.Fatal(e, kind, got, err)
		}
		v, err := value.Eval(e, kindColumns(), row, params)
		if err != api.OK || !isRight(v) || v != null && v.Kind != got {
			// A sum with a null is of the kind Null, and so is null.
			t.Fatal(e, kind, got, v, err)
		}
	}
}
