package flat

import (
	"math/rand"
	"slices"
	"testing"

	"chase/api"
	"chase/path"
	"chase/sketch"
)

const great = "M -16384 -16384, C 16384 16384 -16384 -16384 16384 16384"

// P22.1, P22.2
func TestExamples(t *testing.T) {
	bow := "M 0 0, C 0 40 40 80 80 80"
	for _, c := range []struct {
		p         string
		tolerance int
		want      string
	}{
		{"M 0 0, C 0 0 30 0 30 0", 100, "M 0 0, L 30 0"}, {bow, 10, "M 0 0, L 25 55, L 80 80"}, {bow, 9, "M 0 0, L 25 55, L 80 80"}, {bow, 2, "M 0 0, L 7 29, L 25 55, L 51 73, L 80 80"},
		{"M 5 5, L 6 6, C 6 6 6 6 6 6, Z, M 1 1", 1, "M 5 5, L 6 6, L 6 6, Z, M 1 1"}, {"M 0 0, C 1 2 3 4 5 6, C 0 40 40 80 80 80", 1600, "M 0 0, L 5 6, L 80 80"},
	} {
		got, e := Flatten(sketch.Path(c.p), c.tolerance)
		if !slices.Equal(got, sketch.Path(c.want)) || e != api.OK {
			t.Errorf("%s by %d: %v %d", c.p, c.tolerance, got, e)
		}
	}
	if p, e := Flatten(nil, 1); len(p) != 0 || e != api.OK {
		t.Error(p, e)
	}
	for text, want := range map[string]int{"M 0 0, L 5 5, Z": 3, "M 0 0, C 16384 0 -16384 0 0 0": 257, great: 513} {
		if n, e := Count(sketch.Path(text), 1); n != want || e != api.OK {
			t.Error(text, n, e)
		}
	}
	if p, e := Flatten(sketch.Path(great), 1); p != nil || e != api.LimitCheck {
		t.Error(e)
	}
}

func TestInvalid(t *testing.T) {
	for _, tolerance := range []int{0, 1601, -1, 1 << 62} {
		n, e := Count(sketch.Path("M 0 0"), tolerance)
		p, e2 := Flatten(sketch.Path("M 0 0"), tolerance)
		if n != 0 || p != nil || e != api.ErrArg || e2 != api.ErrArg {
			t.Error(tolerance, e, e2)
		}
		n, e = Count(sketch.Path("L 0 0"), tolerance)
		p, e2 = Flatten(sketch.Path("L 0 0"), tolerance)
		if n != 0 || p != nil || e != api.ErrPath || e2 != api.ErrPath {
			t.Error(tolerance, e, e2)
		}
	}
}

func random(r *rand.Rand, most int) api.Path {
	var p api.Path
	for range 1 + r.Intn(6) {
		s := api.Step{Kind: 1 + r.Intn(4)}
		n := map[int]int{api.Move: 1, api.Line: 1, api.Curve: 3}[s.Kind]
		for i := range n {
			s.P[i] = api.Point{X: r.Intn(2*most) - most, Y: r.Intn(2*most) - most}
		}
		if q, e := path.Add(p, s); e == api.OK {
			p = q
		}
	}
	return p
}

// P22.3
func TestConsequences(t *testing.T) {
	r := rand.New(rand.NewSource(1))
	for range 2000 {
		p, tolerance := random(r, 1+r.Intn(500)), 1+r.Intn(60)
		got, e := Flatten(p, tolerance)
		if e != api.OK {
			t.Fatal(e)
		}
		flat, e := path.Flat(got)
		n, _ := Count(p, tolerance)
		more, _ := Count(p, tolerance+1+r.Intn(60))
		if !flat || e != api.OK || n != len(got) || more > n {
			t.Error(p, got, e)
		}
		if again, _ := Flatten(got, 1+r.Intn(9)); !slices.Equal(again, got) {
			t.Error("flattened twice", p)
		}
		a, _ := path.Current(p)
		b, _ := path.Current(got)
		if a != b || len(p) > 0 && p[0] != got[0] {
			t.Error("ends", p)
		}
		x, y := r.Intn(999)-500, r.Intn(999)-500
		moved, _ := path.Shift(p, x, y)
		moved, _ = Flatten(moved, tolerance)
		if want, _ := path.Shift(got, x, y); !slices.Equal(moved, want) {
			t.Error("shifted", p)
		}
		back, _ := path.Reverse(p)
		back, _ = Flatten(back, tolerance)
		if want, _ := path.Reverse(got); !slices.Equal(back, want) {
			t.Error("reversed", p)
		}
	}
}

// P22.4
func TestDistance(t *testing.T) {
	r := rand.New(rand.NewSource(2))
	for range 300 {
		most := []int{20, 500, 16384}[r.Intn(3)]
		q := func() api.Point { return api.Point{X: r.Intn(2*most) - most, Y: r.Intn(2*most) - most} }
		c := curve{q(), q(), q(), q()}
		tolerance := 1 + r.Intn(50)
		n := c.pieces(tolerance)
		from, j := c[0], 0
		for to := range c.ends(n) {
			for _, s := range []float64{0.25, 0.5, 0.9} {
				u := (float64(j) + s) / float64(n)
				at := func(f func(api.Point) float64) float64 {
					v := 1 - u
					exact := v*v*v*f(c[0]) + 3*v*v*u*f(c[1]) + 3*v*u*u*f(c[2]) + u*u*u*f(c[3])
					return exact - ((1-s)*f(from) + s*f(to))
				}
				x := at(func(p api.Point) float64 { return float64(p.X) })
				y := at(func(p api.Point) float64 { return float64(p.Y) })
				if limit := float64(tolerance + 1); x*x+y*y > limit*limit {
					t.Error(c, tolerance, j, s, x, y)
				}
			}
			from, j = to, j+1
		}
	}
}
