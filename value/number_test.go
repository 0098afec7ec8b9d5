package value_test

import (
	"math/big"
	"testing"

	"dumbwaiter/api"
	"dumbwaiter/value"
)

// numbers are Ints whose sums and products are small, at the bound, and beyond it.
func numbers() []int {
	return []int{-api.MaxInt, -api.MaxInt + 1, -1 << 49, -31622777, -31622776, -10, -7, -3, -2, -1, 0, 1, 2, 3, 7, 10, 31622776, 31622777, 1 << 49, api.MaxInt - 1, api.MaxInt}
}

// rightInt returns the Int of a number, null if it is out of range.
func rightInt(x *big.Int) api.Value {
	if x.CmpAbs(big.NewInt(api.MaxInt)) > 0 {
		return null
	}
	return integer(int(x.Int64()))
}

// floors returns the quotient, rounded down, and the rest.
func floors(x, y *big.Int) (*big.Int, *big.Int) {
	q, r := new(big.Int).QuoRem(x, y, new(big.Int))
	if r.Sign() != 0 && r.Sign() != y.Sign() {
		q.Sub(q, big.NewInt(1))
		r.Add(r, y)
	}
	return q, r
}

// P1.8
func TestIntArithmetic(t *testing.T) {
	for _, x := range numbers() {
		a, bigA := integer(x), big.NewInt(int64(x))
		if got, want := value.Neg(a), rightInt(new(big.Int).Neg(bigA)); got != want {
			t.Error("neg", x, got)
		}
		for _, y := range numbers() {
			b, bigB := integer(y), big.NewInt(int64(y))
			if got, want := value.Add(a, b), rightInt(new(big.Int).Add(bigA, bigB)); got != want {
				t.Error("add", x, y, got)
			}
			if got, want := value.Sub(a, b), rightInt(new(big.Int).Sub(bigA, bigB)); got != want {
				t.Error("sub", x, y, got)
			}
			if got, want := value.Mul(a, b), rightInt(new(big.Int).Mul(bigA, bigB)); got != want {
				t.Error("mul", x, y, got)
			}
			div, mod := null, null
			if y != 0 {
				q, r := floors(bigA, bigB)
				div, mod = rightInt(q), rightInt(r)
			}
			if value.Div(a, b) != div || value.Mod(a, b) != mod {
				t.Error("div", x, y, value.Div(a, b), value.Mod(a, b))
			}
		}
	}
}

// P1.8: the example of the chapter, and products whose wrapped number would be right.
func TestArithmeticExamples(t *testing.T) {
	for _, x := range []struct{ got, want api.Value }{
		{value.Mod(integer(-7), integer(3)), integer(2)},
		{value.Div(integer(-7), integer(3)), integer(-3)},
		{value.Mul(integer(1<<32), integer(1<<32)), null},
		{value.Mul(integer(-1<<40), integer(1<<40)), null},
		{value.Mul(integer(0), integer(-api.MaxInt)), integer(0)},
	} {
		if x.got != x.want {
			t.Error(x)
		}
	}
}

// P1.8
func TestMomentArithmetic(t *testing.T) {
	for _, x := range []struct{ got, want api.Value }{
		{value.Add(moment(10), integer(5)), moment(15)},
		{value.Add(moment(10), integer(-10)), moment(0)},
		{value.Add(moment(10), integer(-11)), null},
		{value.Add(moment(api.MaxMoment), integer(0)), moment(api.MaxMoment)},
		{value.Add(moment(api.MaxMoment), integer(1)), null},
		{value.Add(moment(1), integer(api.MaxInt)), null},
		{value.Add(integer(5), moment(10)), null},
		{value.Add(moment(1), moment(1)), null},
		{value.Sub(moment(10), integer(4)), moment(6)},
		{value.Sub(moment(10), integer(11)), null},
		{value.Sub(moment(10), integer(-5)), moment(15)},
		{value.Sub(moment(10), moment(4)), integer(6)},
		{value.Sub(moment(4), moment(10)), integer(-6)},
		{value.Sub(moment(0), moment(api.MaxMoment)), integer(-api.MaxMoment)},
		{value.Sub(integer(10), moment(4)), null},
	} {
		if x.got != x.want {
			t.Error(x)
		}
	}
}

// P1.8: all other kinds of arguments give null.
func TestArithmeticOfOtherKinds(t *testing.T) {
	for _, a := range all() {
		rightA := value.Check(api.Int, a) == api.OK && a != null
		if !rightA && value.Neg(a) != null {
			t.Error("neg", a)
		}
		for _, b := range all() {
			if rightA && value.Check(api.Int, b) == api.OK && b != null {
				continue
			}
			if value.Mul(a, b) != null || value.Div(a, b) != null || value.Mod(a, b) != null {
				t.Error(a, b)
			}
			if isRight(b) && b.Kind == api.Int && isRight(a) && a.Kind == api.Moment {
				continue
			}
			if value.Add(a, b) != null {
				t.Error("add", a, b)
			}
			if isRight(a) && isRight(b) && a.Kind == api.Moment && b.Kind == api.Moment {
				continue
			}
			if value.Sub(a, b) != null {
				t.Error("sub", a, b)
			}
		}
	}
}

// isRight reports whether a value is right.
func isRight(v api.Value) bool { return v == null || value.Check(v.Kind, v) == api.OK }
