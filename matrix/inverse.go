package matrix

import (
	"math/bits"

	"chase/api"
)

func determinant(m api.Matrix) int {
	return sum([2]int{m.A, m.D}, [2]int{-m.B, m.C})
}

// scaled returns n times 2^shift / d, rounded; ok is false if that is too great for any entry.
func scaled(n, shift, d int) (value int, ok bool) {
	if d < 0 {
		n, d = -n, -d
	}
	q, r := n/d, n%d
	if r < 0 {
		q, r = q-1, r+d
	}
	if !within(q, 1<<30) {
		return 0, false
	}
	high, low := bits.Mul64(uint64(r), 1<<shift)
	part, rest := bits.Div64(high, low, uint64(d))
	if 2*rest >= uint64(d) {
		part++
	}
	return q<<shift + int(part), true
}

// Invert returns the matrix that maps back.
func Invert(m api.Matrix) (api.Matrix, api.Errno) {
	if e := Check(m); e != api.OK {
		return api.Matrix{}, e
	}
	d := determinant(m)
	if d == 0 {
		return api.Matrix{}, api.UndefinedResult
	}
	fits := true
	entry := func(n, shift int) int {
		v, ok := scaled(n, shift, d)
		fits = fits && ok
		return v
	}
	entries := [6]int{
		entry(m.D, 32), entry(-m.B, 32), entry(-m.C, 32), entry(m.A, 32),
		entry(sum([2]int{m.C, m.F}, [2]int{-m.D, m.E}), 16),
		entry(sum([2]int{m.B, m.E}, [2]int{-m.A, m.F}), 16),
	}
	if !fits {
		return api.Matrix{}, api.LimitCheck
	}
	return made(entries)
}

// Back returns the numbers that are mapped to a point of device space.
func Back(m api.Matrix, p api.Point) (x, y int, e api.Errno) {
	if e := Check(m); e != api.OK {
		return 0, 0, e
	}
	if !within(p.X, api.MaxCoord) || !within(p.Y, api.MaxCoord) {
		return 0, 0, api.ErrArg
	}
	d := determinant(m)
	if d == 0 {
		return 0, 0, api.UndefinedResult
	}
	u, v := 4096*p.X-m.E, 4096*p.Y-m.F
	x, first := scaled(sum([2]int{m.D, u}, [2]int{-m.C, v}), 16, d)
	y, second := scaled(sum([2]int{m.A, v}, [2]int{-m.B, u}), 16, d)
	if !first || !second || !within(x, api.MaxReal) || !within(y, api.MaxReal) {
		return 0, 0, api.LimitCheck
	}
	return x, y, api.OK
}
