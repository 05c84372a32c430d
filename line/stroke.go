package line

import (
	"math/bits"

	"chase/api"
)

// vector is the difference of two points.
type vector api.Point

func between(a, b api.Point) vector {
	return vector{b.X - a.X, b.Y - a.Y}
}

func (u vector) dot(v vector) int   { return u.X*v.X + u.Y*v.Y }
func (u vector) cross(v vector) int { return u.X*v.Y - u.Y*v.X }
func (u vector) back() vector       { return vector{-u.X, -u.Y} }

// segment leads from a corner along its vector.
type segment struct {
	vector
	from api.Point
}

// question is whether the stroke with a pen covers a point.
type question struct {
	pen   api.Pen
	q     api.Point
	caps  map[int]func(c api.Point, d vector) bool
	joins map[int]func(c api.Point, d, e vector) bool
}

func newQuestion(pen api.Pen, q api.Point) *question {
	k := &question{pen: pen, q: q}
	k.caps = map[int]func(api.Point, vector) bool{
		api.CapButt:   k.buttCap,
		api.CapRound:  k.roundCap,
		api.CapSquare: k.squareCap,
	}
	k.joins = map[int]func(api.Point, vector, vector) bool{
		api.JoinMiter: k.miterJoin,
		api.JoinRound: k.roundJoin,
		api.JoinNone:  k.noJoin,
	}
	return k
}

// covered reports whether the stroke of a subpath covers the point.
func (k *question) covered(o outline) bool {
	if len(o.segments) == 0 {
		return k.pen.Cap == api.CapRound && k.near(o.corners[0])
	}
	for _, s := range o.segments {
		if k.body(s) {
			return true
		}
	}
	join := k.joins[k.pen.Join]
	for i, s := range o.segments {
		next := i + 1
		if o.closed {
			next %= len(o.segments)
		}
		if next < len(o.segments) && join(o.segments[next].from, s.vector, o.segments[next].vector) {
			return true
		}
	}
	if o.closed {
		return false
	}
	first, last := o.segments[0], o.segments[len(o.segments)-1]
	end := k.caps[k.pen.Cap]
	return end(first.from, first.vector) || end(o.corners[len(o.corners)-1], last.back())
}

// beside reports whether n / |d| is at most half of the width, as an absolute value.
func (k *question) beside(n int, d vector) bool {
	// The width times |d| is less than this, and 4 n^2 must not be too great.
	const great = 1 << 30
	return n < great && n > -great && 4*n*n <= k.pen.Width*k.pen.Width*d.dot(d)
}

// near reports whether the point is within half of the width of c.
func (k *question) near(c api.Point) bool {
	r := between(c, k.q)
	return 4*r.dot(r) <= k.pen.Width*k.pen.Width
}

func (k *question) body(s segment) bool {
	d, r := s.vector, between(s.from, k.q)
	return all(0 <= r.dot(d), r.dot(d) <= d.dot(d), k.beside(d.cross(r), d))
}

func (k *question) noJoin(api.Point, vector, vector) bool { return false }

func (k *question) roundJoin(c api.Point, _, _ vector) bool { return k.near(c) }

func (k *question) miterJoin(c api.Point, d, e vector) bool {
	r := between(c, k.q)
	return all(
		r.dot(d) >= 0, r.dot(e) <= 0,
		k.beside(d.cross(r), d), k.beside(e.cross(r), e),
		sharpEnough(k.pen.Limit, d, e),
	)
}

// sharpEnough reports whether 2 |d| |e| is at most limit^2 (|d| |e| + d.e).
func sharpEnough(limit int, d, e vector) bool {
	// That is: m |d| |e| + n is not negative.
	m, n := limit*limit-2, limit*limit*d.dot(e)
	if m >= 0 && n >= 0 {
		return true
	}
	lengths := compareSquares(m, d.dot(d)*e.dot(e), n)
	if m < 0 {
		return n >= 0 && lengths <= 0
	}
	return lengths >= 0
}

// compareSquares compares m^2 a with n^2: -1, 0 or 1.
func compareSquares(m, a, n int) int {
	high, low := bits.Mul64(uint64(m*m), uint64(a))
	size := uint64(max(n, -n))
	otherHigh, otherLow := bits.Mul64(size, size)
	switch {
	case high < otherHigh || high == otherHigh && low < otherLow:
		return -1
	case high == otherHigh && low == otherLow:
		return 0
	}
	return 1
}

func (k *question) buttCap(api.Point, vector) bool { return false }

func (k *question) roundCap(c api.Point, _ vector) bool { return k.near(c) }

func (k *question) squareCap(c api.Point, d vector) bool {
	r := between(c, k.q)
	return all(r.dot(d) <= 0, k.beside(r.dot(d), d), k.beside(d.cross(r), d))
}
