package operate_test

import (
	"math/rand"
	"testing"

	"dumbwaiter/api"
	"dumbwaiter/operate"
	"dumbwaiter/value"
)

// values are values of all kinds.
func values() []api.Value {
	l := []api.Value{{}, {Kind: api.Bool}, {Kind: api.Bool, N: 1}}
	for _, n := range []int{0, 1, 2, 3, -1, api.MaxInt} {
		l = append(l, api.Value{Kind: api.Int, N: n})
	}
	for _, s := range []string{"", "a", "Ab%", "a_b"} {
		l = append(l, api.Value{Kind: api.Text, S: s})
	}
	return append(l, api.Value{Kind: api.Moment}, api.Value{Kind: api.Moment, N: 1794906300})
}

// made is the function of an expression, which gives the values of parameters.
func made(e api.Expr) func(params []api.Value) api.Value {
	var args []func(params []api.Value) api.Value
	for _, arg := range e.Args {
		args = append(args, made(arg))
	}
	switch e.Kind {
	case api.XValue:
		return func([]api.Value) api.Value { return e.Value }
	case api.XParam:
		return func(params []api.Value) api.Value { return params[e.N] }
	case api.XCase:
		return operate.Choice(args)
	case api.XIn:
		return operate.In(args)
	}
	return operate.Operation(e, args)
}

// P1.13: functions give the values that value.Eval gives, for each operation.
func TestOperations(t *testing.T) {
	r := rand.New(rand.NewSource(1))
	all := values()
	right := map[int]int{}
	for range 60000 {
		e := api.Expr{Kind: api.XCase - r.Intn(2) + r.Intn(2)}
		if e.Kind == api.XOp {
			e.Op = 1 + r.Intn(api.OpCast)
			if e.Op >= api.OpTrunc {
				e.N = 1 + r.Intn(4)
			}
		}
		var params []api.Value
		for i := range 1 + r.Intn(4) {
			e.Args = append(e.Args, api.Expr{Kind: api.XParam, N: i})
			params = append(params, all[r.Intn(len(all))])
		}
		want, err := value.Eval(e, nil, nil, params)
		if err != api.OK {
			continue
		}
		right[e.Kind*100+e.Op]++
		if got := made(e)(params); got != want {
			t.Fatal(e, params, got, want)
		}
	}
	if len(right) != api.OpCast+2 {
		t.Error(len(right), right)
	}
}

// P1.13: parts that do not decide are not asked: they can be costly.
func TestLazy(t *testing.T) {
	asked := 0
	costly := func(int) api.Value { asked++; return value.Bool(true) }
	is := func(v api.Value) func(int) api.Value { return func(int) api.Value { return v } }
	for i, f := range []func(int) api.Value{
		operate.Operation(api.Expr{Kind: api.XOp, Op: api.OpAnd}, []func(int) api.Value{is(value.Bool(false)), costly}),
		operate.Operation(api.Expr{Kind: api.XOp, Op: api.OpOr}, []func(int) api.Value{is(value.Bool(true)), costly}),
		operate.Operation(api.Expr{Kind: api.XOp, Op: api.OpCoalesce}, []func(int) api.Value{is(value.Bool(true)), costly}),
		operate.Choice([]func(int) api.Value{is(value.Bool(true)), is(value.Bool(false)), costly}),
	} {
		if f(0); asked > 0 {
			t.Error(i)
		}
	}
	if !operate.IsTrue(value.Bool(true)) || operate.IsTrue(value.Bool(false)) || operate.IsTrue(api.Value{}) || operate.IsTrue(api.Value{Kind: api.Int, N: 1}) {
		t.Error("true")
	}
}
