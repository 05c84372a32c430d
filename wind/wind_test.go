package wind

import (
	"math/rand"
	"testing"

	"chase/api"
	"chase/path"
	"chase/sketch"
)

const (
	square   = "M 0 0, L 32 0, L 32 32, L 0 32, Z"
	triangle = "M 0 0, L 10 0, L 0 10"
)

func at(x, y int) api.Point { return api.Point{X: x, Y: y} }

// P23.1
func TestWinding(t *testing.T) {
	for _, c := range []struct {
		p    string
		q    api.Point
		want int
	}{
		{square, at(0, 0), 1}, {square, at(31, 31), 1}, {square, at(32, 0), 0}, {square, at(0, 32), 0}, {square, at(-1, 5), 0}, {triangle, at(4, 5), 1}, {triangle, at(5, 5), 0}, {square + "," + square, at(1, 1), 2},
		{"M 5 5, Z", at(5, 5), 0}, {"M 5 5", at(5, 5), 0}, {"M 0 0, L 0 32, L 32 32, L 32 0", at(5, 5), -1}, {square + ", M 8 8, L 8 16, L 16 16, L 16 8", at(9, 9), 0}, {"M -16384 -16384, L 16384 -16384, L 16384 16384, L -16384 16384", at(16383, 16383), 1}, {"M 0 0, L 8 8", at(4, 4), 0},
	} {
		if n, e := Winding(sketch.Path(c.p), c.q); n != c.want || e != api.OK {
			t.Errorf("%s at %v: %d %d", c.p, c.q, n, e)
		}
	}
	if n, e := Winding(nil, at(0, 0)); n != 0 || e != api.OK {
		t.Error(n, e)
	}
}

// P23.2
func TestInside(t *testing.T) {
	twice := sketch.Path(square + "," + square)
	for _, c := range []struct {
		p          api.Path
		even, want bool
	}{{twice, false, true}, {twice, true, false}, {sketch.Path(square), true, true}, {sketch.Path("M 0 0, L 0 32, L 32 32, L 32 0"), true, true}, {sketch.Path("M 0 0, L 0 32, L 32 32, L 32 0"), false, true}, {nil, false, false}} {
		if in, e := Inside(c.p, c.even, at(1, 1)); in != c.want || e != api.OK {
			t.Error(c.p, c.even, in, e)
		}
	}
	for _, c := range []struct {
		p string
		q api.Point
		e api.Errno
	}{{"M 0 0, C 1 1 2 2 3 3", at(99999, 0), api.ErrCurve}, {square, at(16385, 0), api.ErrArg}, {square, at(0, -16385), api.ErrArg}, {"L 0 0", at(99999, 0), api.ErrPath}, {"M 0 0, M 1 1, C 1 1 2 2 3 3", at(0, 0), api.ErrPath}} {
		n, e := Winding(sketch.Path(c.p), c.q)
		in, e2 := Inside(sketch.Path(c.p), false, c.q)
		if n != 0 || in || e != c.e || e2 != c.e {
			t.Error(c, e, e2)
		}
	}
}

func random(r *rand.Rand) api.Path {
	var p api.Path
	for range r.Intn(12) {
		s := api.Step{Kind: []int{api.Move, api.Line, api.Line, api.Line, api.Close}[r.Intn(5)]}
		if s.Kind != api.Close {
			s.P[0] = at(r.Intn(12), r.Intn(12))
		}
		if q, e := path.Add(p, s); e == api.OK {
			p = q
		}
	}
	return p
}

// P23.3
func TestConsequences(t *testing.T) {
	r := rand.New(rand.NewSource(1))
	for range 3000 {
		p, q := random(r), at(r.Intn(14)-1, r.Intn(14)-1)
		n, _ := Winding(p, q)
		parts, _ := path.Parts(p)
		sum := 0
		for _, part := range parts {
			k, _ := Winding(part, q)
			sum += k
			// Whether it is closed, and where it begins, does not matter.
			if part[len(part)-1].Kind != api.Close {
				part, _ = path.Add(part, api.Step{Kind: api.Close})
			}
			var turned api.Path
			for _, s := range append(part[1:len(part)-1:len(part)-1], part[0]) {
				s.Kind = api.Line
				if turned == nil {
					s.Kind = api.Move
				}
				turned = append(turned, s)
			}
			closed, _ := Winding(part, q)
			begun, _ := Winding(turned, q)
			if closed != k || begun != k {
				t.Error(part, q, k, closed, begun)
			}
		}
		back, _ := path.Reverse(p)
		m, _ := Winding(back, q)
		moved, _ := path.Shift(p, 7, -9)
		l, _ := Winding(moved, at(q.X+7, q.Y-9))
		if sum != n || m != -n || l != n {
			t.Error(p, q, n, sum, m, l)
		}
		// A polygon that is cut in two
		poly := sketch.Path("M 0 0, L 1 1, L 2 2, L 3 3, L 4 4, L 5 5")
		for i := range poly {
			poly[i].P[0] = at(r.Intn(12), r.Intn(12))
		}
		first := append(append(api.Path{}, poly[:2]...), poly[4:]...)
		second := append(api.Path{}, poly[1:5]...)
		second[0].Kind = api.Move
		whole, _ := Winding(poly, q)
		a, _ := Winding(first, q)
		b, e := Winding(second, q)
		if whole != a+b || e != api.OK {
			t.Error(poly, q)
		}
		x0, y0, x1, y1 := r.Intn(8), r.Intn(8), 8+r.Intn(4), 8+r.Intn(4)
		box := sketch.Path("M 0 0, L 0 0, L 0 0, L 0 0")
		for i, c := range []api.Point{at(x0, y0), at(x1, y0), at(x1, y1), at(x0, y1)} {
			box[i].P[0] = c
		}
		if in, _ := Inside(box, r.Intn(2) == 0, q); in != (x0 <= q.X && q.X < x1 && y0 <= q.Y && q.Y < y1) {
			t.Error(box, q)
		}
	}
}
