// Package real is layer 1: real numbers in fixed point, and their decimal text. See 01-real.md.
package real

import "chase/api"

const half = api.One / 2

// Is reports whether n is a real.
func Is(n int) bool {
	return -api.MaxReal <= n && n <= api.MaxReal
}

// FromInt returns the real with the value i.
func FromInt(i int) (int, api.Errno) {
	if i < -api.MaxReal/api.One || i > api.MaxReal/api.One {
		return 0, api.UndefinedResult
	}
	return i * api.One, api.OK
}

// ToInt returns the value of a, rounded towards 0.
func ToInt(a int) (int, api.Errno) {
	return change(a, func(a int) int { return a / api.One })
}

// Add returns the sum of a and b.
func Add(a, b int) (int, api.Errno) {
	return combine(a, b, func(a, b int) int { return a + b })
}

// Sub returns the difference of a and b.
func Sub(a, b int) (int, api.Errno) {
	return combine(a, b, func(a, b int) int { return a - b })
}

// Neg returns the negative of a.
func Neg(a int) (int, api.Errno) {
	return change(a, func(a int) int { return -a })
}

// Mul returns the product of a and b, rounded.
func Mul(a, b int) (int, api.Errno) {
	return combine(a, b, func(a, b int) int { return (a*b + half) >> 16 })
}

// Div returns the quotient of a and b, rounded.
func Div(a, b int) (int, api.Errno) {
	if b == 0 && Is(a) {
		return 0, api.UndefinedResult
	}
	return combine(a, b, func(a, b int) int {
		if b < 0 {
			a, b = -a, -b
		}
		return floorDiv(2*a*api.One+b, 2*b)
	})
}

// combine applies f to two reals, and checks that its result is one.
func combine(a, b int, f func(a, b int) int) (int, api.Errno) {
	if !Is(a) || !Is(b) {
		return 0, api.ErrArg
	}
	n := f(a, b)
	if !Is(n) {
		return 0, api.UndefinedResult
	}
	return n, api.OK
}

// floorDiv returns a / b, rounded down; b is positive.
func floorDiv(a, b int) int {
	q := a / b
	if a%b < 0 {
		q--
	}
	return q
}

// change applies f to a real.
func change[T ~int](a T, f func(T) T) (T, api.Errno) {
	if !Is(int(a)) {
		return 0, api.ErrArg
	}
	return f(a), api.OK
}

// whole returns the greatest multiple of One that is at most n.
func whole(n int) int {
	return n >> 16 << 16
}

// Floor returns the greatest whole number that is at most a.
func Floor(a int) (int, api.Errno) {
	return change(a, whole)
}

// Ceil returns the least whole number that is at least a.
func Ceil(a int) (int, api.Errno) {
	return change(a, func(a int) int { return -whole(-a) })
}

// Round returns the greatest whole number that is at most a + 1/2.
func Round(a int) (int, api.Errno) {
	return change(a, func(a int) int { return whole(a + half) })
}

// Trunc returns a without its fraction.
func Trunc(a int) (int, api.Errno) {
	return change(a, func(a int) int { return a / api.One * api.One })
}

// Sqrt returns the greatest real whose square is at most a.
func Sqrt(a int) (int, api.Errno) {
	if !Is(a) {
		return 0, api.ErrArg
	}
	if a < 0 {
		return 0, api.RangeCheck
	}
	root := 0
	for bit := 1 << 24; bit > 0; bit >>= 1 {
		if next := root | bit; next*next <= a*api.One {
			root = next
		}
	}
	return root, api.OK
}
