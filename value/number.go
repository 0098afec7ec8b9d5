package value

import (
	"dumbwaiter/api"
)

// Add adds.
func Add(a, b api.Value) api.Value {
	if x, y, ok := numbers(a, api.Int, b, api.Int); ok {
		return number(api.Int, x+y)
	}
	if x, y, ok := numbers(a, api.Moment, b, api.Int); ok {
		return number(api.Moment, x+y)
	}
	return api.Value{}
}

// Sub subtracts.
func Sub(a, b api.Value) api.Value {
	if x, y, ok := numbers(a, api.Int, b, api.Int); ok {
		return number(api.Int, x-y)
	}
	if x, y, ok := numbers(a, api.Moment, b, api.Int); ok {
		return number(api.Moment, x-y)
	}
	if x, y, ok := numbers(a, api.Moment, b, api.Moment); ok {
		return number(api.Int, x-y)
	}
	return api.Value{}
}

// Mul multiplies.
func Mul(a, b api.Value) api.Value {
	x, y, ok := numbers(a, api.Int, b, api.Int)
	// The product of two right Ints need not fit an int: this asks ahead of it.
	if !ok || x != 0 && max(y, -y) > api.MaxInt/max(x, -x) {
		return api.Value{}
	}
	return number(api.Int, x*y)
}

// Div divides, rounded down.
func Div(a, b api.Value) api.Value {
	x, y, ok := numbers(a, api.Int, b, api.Int)
	if !ok || y == 0 {
		return api.Value{}
	}
	return number(api.Int, floorDiv(x, y))
}

// Mod is the rest of Div.
func Mod(a, b api.Value) api.Value {
	x, y, ok := numbers(a, api.Int, b, api.Int)
	if !ok || y == 0 {
		return api.Value{}
	}
	return number(api.Int, x-y*floorDiv(x, y))
}

// floorDiv divides, rounded down: the division of Go is rounded towards 0.
func floorDiv(x, y int) int {
	if x%y != 0 && (x < 0) != (y < 0) {
		return x/y - 1
	}
	return x / y
}

// Neg is the opposite number.
func Neg(a api.Value) api.Value {
	a = clean(a)
	if a.Kind != api.Int {
		return api.Value{}
	}
	return number(api.Int, -a.N)
}
