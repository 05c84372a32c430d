package line

import (
	"math"
	"math/big"
	"math/rand"
	"testing"

	"chase/api"
	"chase/path"
	"chase/sketch"
)

func at(x, y int) api.Point { return api.Point{X: x, Y: y} }

func pen(width, end, join, limit int) api.Pen {
	return api.Pen{Width: width, Cap: end, Join: join, Limit: limit}
}

const (
	butt, round, square      = api.CapButt, api.CapRound, api.CapSquare
	miter, roundJoin, noJoin = api.JoinMiter, api.JoinRound, api.JoinNone
)

// P24.1
func TestCheck(t *testing.T) {
	good := api.Pen{Width: 1, Limit: 1}
	for _, p := range []api.Pen{good, {Width: 4096, Cap: 2, Join: 2, Limit: 100, Dash: []int{1, 32768, 3, 4, 5, 6, 7, 8, 9, 10}, Phase: 1 << 20}} {
		if e := Check(p); e != api.OK {
			t.Error(p, e)
		}
	}
	for i, change := range []func(*api.Pen){
		func(p *api.Pen) { p.Width = 0 }, func(p *api.Pen) { p.Width = 4097 }, func(p *api.Pen) { p.Cap = 3 }, func(p *api.Pen) { p.Cap = -1 }, func(p *api.Pen) { p.Join = 3 }, func(p *api.Pen) { p.Join = -1 }, func(p *api.Pen) { p.Limit = 0 }, func(p *api.Pen) { p.Limit = 101 },
		func(p *api.Pen) { p.Dash = []int{0} }, func(p *api.Pen) { p.Dash = []int{3, 32769} }, func(p *api.Pen) { p.Dash = []int{1, 1, 1, 1, 1, 1, 1, 1, 1, 1, 1} }, func(p *api.Pen) { p.Phase = -1 }, func(p *api.Pen) { p.Phase = 1<<20 + 1 },
	} {
		p := good
		change(&p)
		if e := Check(p); e != api.ErrPen {
			t.Error(i, e)
		}
		if c, e := Covers(sketch.Path("M 0 0"), p, at(99999, 0)); c || e != api.ErrPen {
			t.Error(i, e)
		}
	}
}

// P24.2
func TestCovers(t *testing.T) {
	const h, a = "M 0 0, L 100 0", "M 0 0, L 100 0, L 100 100"
	for _, c := range []struct {
		p    string
		pen  api.Pen
		q    api.Point
		want bool
	}{
		{h, pen(20, butt, miter, 10), at(50, 10), true}, {h, pen(20, butt, miter, 10), at(50, 11), false}, {h, pen(20, butt, miter, 10), at(0, -10), true}, {h, pen(20, butt, miter, 10), at(-1, 0), false}, {h, pen(20, butt, miter, 10), at(101, 0), false}, {h, pen(20, butt, miter, 10), at(100, 10), true},
		{h, pen(20, square, miter, 10), at(-10, 10), true}, {h, pen(20, square, miter, 10), at(-11, 0), false}, {h, pen(20, square, miter, 10), at(110, -10), true}, {h, pen(20, square, miter, 10), at(111, 0), false}, {h, pen(20, round, miter, 10), at(-10, 0), true}, {h, pen(20, round, miter, 10), at(-8, 7), false}, {h, pen(20, round, miter, 10), at(107, 7), true},
		{a, pen(20, butt, miter, 10), at(110, -10), true}, {a, pen(20, butt, miter, 10), at(111, 0), false}, {a, pen(20, butt, miter, 1), at(110, -10), false}, {a, pen(20, butt, miter, 2), at(110, -10), true}, {a, pen(20, butt, roundJoin, 10), at(107, -7), true}, {a, pen(20, butt, roundJoin, 10), at(108, -7), false}, {a, pen(20, butt, noJoin, 10), at(105, -5), false},
		{a, pen(20, butt, miter, 10), at(95, 5), true}, {a, pen(20, butt, miter, 10), at(89, 11), false},
		{"M 5 5, Z", pen(20, round, miter, 10), at(5, 15), true}, {"M 5 5, Z", pen(20, butt, roundJoin, 10), at(5, 5), false}, {"M 5 5", pen(20, round, miter, 10), at(5, 16), false}, {"M 5 5, L 5 5", pen(20, round, miter, 10), at(15, 5), true}, {"M 5 5, L 5 5, L 5 5, Z", pen(20, square, miter, 10), at(5, 5), false},
		{"M 0 0, L 100 0, L 0 0", pen(20, butt, miter, 100), at(101, 0), false}, {"M 0 0, L 100 0, L 0 0", pen(20, butt, roundJoin, 100), at(110, 0), true}, {"M 0 0, L 100 0, Z", pen(20, butt, roundJoin, 100), at(-10, 0), true}, {"M 0 0, L 100 0, L 0 0, Z", pen(20, round, noJoin, 100), at(-1, 0), false},
		{"M 0 0, L 100 0, L 200 0", pen(20, butt, miter, 1), at(100, 10), true}, {"M 0 0, L 50 0, M 80 0, L 100 0", pen(20, butt, miter, 1), at(90, 1), true}, {"M 0 0, L 50 0, M 80 0, L 100 0", pen(20, butt, miter, 1), at(60, 1), false},
		{"M -16384 -16384, L 16384 16384", pen(4096, butt, miter, 1), at(16384, -16384), false}, {"M -16384 -16384, L 16384 16384", pen(4096, butt, miter, 1), at(1448, -1448), true}, {"M -16384 -16384, L 16384 16384", pen(4096, butt, miter, 1), at(1449, -1448), false},
	} {
		if got, e := Covers(sketch.Path(c.p), c.pen, c.q); got != c.want || e != api.OK {
			t.Errorf("%s %v at %v: %v %d", c.p, c.pen, c.q, got, e)
		}
	}
	for _, c := range []struct {
		p string
		q api.Point
		e api.Errno
	}{{"M 0 0, C 1 1 2 2 3 3", at(99999, 0), api.ErrCurve}, {h, at(16385, 0), api.ErrArg}, {h, at(0, -16385), api.ErrArg}, {"L 0 0", at(99999, 0), api.ErrPath}} {
		if got, e := Covers(sketch.Path(c.p), pen(1, 0, 0, 1), c.q); got || e != c.e {
			t.Error(c, e)
		}
	}
	if got, e := Covers(nil, pen(1, 0, 0, 1), at(0, 0)); got || e != api.OK {
		t.Error(got, e)
	}
}

// The condition of miters, with big numbers.
func TestMiterLimit(t *testing.T) {
	r := rand.New(rand.NewSource(1))
	for range 20000 {
		most := []int{3, 100, 32768}[r.Intn(3)]
		n := func() int { return r.Intn(2*most+1) - most }
		d, e, limit := vector{n(), n()}, vector{n(), n()}, 1+r.Intn(100)
		if r.Intn(2) == 0 {
			limit = 1 + r.Intn(3)
		}
		if r.Intn(4) == 0 {
			e = vector{d.X, d.Y}
		}
		root := new(big.Float).SetPrec(400).Sqrt(new(big.Float).SetPrec(400).SetInt64(int64(d.dot(d) * e.dot(e))))
		left := new(big.Float).SetPrec(400).Mul(root, big.NewFloat(2))
		right := new(big.Float).SetPrec(400).Add(root, new(big.Float).SetPrec(400).SetInt64(int64(d.dot(e))))
		right.Mul(right, big.NewFloat(float64(limit*limit)))
		want := left.Cmp(right) <= 0
		if sharpEnough(limit, d, e) != want {
			t.Error(limit, d, e, want)
		}
	}
}

// distance is that of a point from a flattened path, closed subpaths included.
func distance(p api.Path, q api.Point) float64 {
	least := math.Inf(1)
	parts, _ := path.Parts(p)
	for _, part := range parts {
		from := part[0].P[0]
		near := func(to api.Point) {
			dx, dy := float64(to.X-from.X), float64(to.Y-from.Y)
			rx, ry := float64(q.X-from.X), float64(q.Y-from.Y)
			s := 0.0
			if dx != 0 || dy != 0 {
				s = max(0, min(1, (rx*dx+ry*dy)/(dx*dx+dy*dy)))
			}
			least = min(least, math.Hypot(rx-s*dx, ry-s*dy))
			from = to
		}
		near(from)
		for _, s := range part[1:] {
			if s.Kind == api.Close {
				s.P[0] = part[0].P[0]
			}
			near(s.P[0])
		}
	}
	return least
}

func random(r *rand.Rand) api.Path {
	p := api.Path{{Kind: api.Move, P: [3]api.Point{at(r.Intn(60), r.Intn(60))}}}
	for range r.Intn(8) {
		s := api.Step{Kind: []int{api.Move, api.Line, api.Line, api.Line, api.Close}[r.Intn(5)]}
		if s.Kind != api.Close {
			s.P[0] = at(r.Intn(60), r.Intn(60))
		}
		p, _ = path.Add(p, s)
	}
	return p
}

// P24.3
func TestConsequences(t *testing.T) {
	r := rand.New(rand.NewSource(2))
	for range 4000 {
		p, q := random(r), at(r.Intn(80)-10, r.Intn(80)-10)
		width := 1 + r.Intn(20)
		covers := func(p api.Path, k api.Pen, q api.Point) bool {
			c, e := Covers(p, k, q)
			if e != api.OK {
				t.Fatal(e)
			}
			return c
		}
		full := covers(p, pen(width, round, roundJoin, 1), q)
		if d := distance(p, q) - float64(width)/2; math.Abs(d) > 1e-9 && full != (d < 0) {
			t.Error(p, q, width, d)
		}
		k := pen(width, r.Intn(3), r.Intn(3), 1+r.Intn(12))
		got := covers(p, k, q)
		wide, thin := k, k
		wide.Width++
		if got && !covers(p, wide, q) {
			t.Error("a wider pen covers more", p, k, q)
		}
		thin.Cap, thin.Join = butt, noJoin
		if !got && covers(p, thin, q) {
			t.Error("butt caps and no joins cover less", p, k, q)
		}
		back, _ := path.Reverse(p)
		moved, _ := path.Shift(p, 70, -90)
		if covers(back, k, q) != got || covers(moved, k, at(q.X+70, q.Y-90)) != got {
			t.Error("reversed or shifted", p, k, q)
		}
		frame := sketch.Path("M 10 10, L 50 10, L 50 40, L 10 40, Z")
		w := width/2 + 1
		inside := func(d int) bool { return 10-d <= q.X && q.X <= 50+d && 10-d <= q.Y && q.Y <= 40+d }
		inner := 10+w < q.X && q.X < 50-w && 10+w < q.Y && q.Y < 40-w
		if covers(frame, pen(2*w, butt, miter, 2), q) != (inside(w) && !inner) {
			t.Error("a frame", w, q)
		}
	}
}
