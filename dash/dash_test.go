package dash

import (
	"math/rand"
	"slices"
	"testing"

	"chase/api"
	"chase/path"
	"chase/sketch"
)

func at(x, y int) api.Point { return api.Point{X: x, Y: y} }

func pen(phase int, dash ...int) api.Pen {
	return api.Pen{Width: 1, Limit: 1, Dash: dash, Phase: phase}
}

// P25.1
func TestLength(t *testing.T) {
	for _, c := range []struct {
		a, b api.Point
		want int
		e    api.Errno
	}{
		{at(0, 0), at(30, 40), 50, 0}, {at(0, 0), at(1, 1), 1, 0}, {at(-16384, -16384), at(16384, 16384), 46340, 0}, {at(5, 5), at(5, 5), 0, 0}, {at(0, 0), at(0, -3), 3, 0}, {at(-16384, 0), at(16384, 0), 32768, 0}, {at(1, 2), at(3, 4), 2, 0},
		{at(16385, 0), at(0, 0), 0, api.ErrArg}, {at(0, 0), at(0, -16385), 0, api.ErrArg}, {at(1<<63-1, 0), at(-1<<63, 0), 0, api.ErrArg},
	} {
		if n, e := Length(c.a, c.b); n != c.want || e != c.e {
			t.Error(c, n, e)
		}
	}
}

// P25.2
func TestCut(t *testing.T) {
	const l = "M 0 0, L 100 0, L 100 50"
	for _, c := range []struct {
		p    string
		pen  api.Pen
		want string
	}{
		{l, pen(0, 60), "M 0 0, L 60 0, M 100 20, L 100 50"}, {l, pen(35, 30, 10), "M 5 0, L 35 0, M 45 0, L 75 0, M 85 0, L 100 0, L 100 15, M 100 25, L 100 50"}, {l, pen(0, 100, 20, 10), "M 0 0, L 100 0, M 100 20, L 100 30"},
		{"M 0 0, L 30 40, Z", pen(0, 25), "M 0 0, L 15 20, M 30 40, L 15 20"}, {"M 5 5, Z", pen(0, 3), "M 5 5, Z"}, {l, pen(7), l}, {"M 0 0, L 1 1, L 1 1, Z", pen(0), "M 0 0, L 1 1, L 1 1, Z"},
		{"M 5 5, L 5 5, M 9 9", pen(0, 3), "M 5 5, L 5 5, M 9 9"}, {"M 0 0, L 10 0, M 20 0, L 30 0, Z", pen(0, 6), "M 0 0, L 6 0, M 20 0, L 26 0, M 28 0, L 22 0"}, {"M 0 0, L 10 0, L 0 0, Z", pen(0, 15, 1), "M 0 0, L 10 0, L 5 0, M 4 0, L 0 0"},
		{l, pen(30, 30, 10), "M 10 0, L 40 0, M 50 0, L 80 0, M 90 0, L 100 0, L 100 20, M 100 30, L 100 50"}, {l, pen(1<<20, 200), l}, {l, pen(200, 200), ""}, {l, pen(60, 60), "M 60 0, L 100 0, L 100 20"}, {"M 0 0, L 10 0, L 10 0, L 20 0", pen(0, 15, 99), "M 0 0, L 10 0, L 15 0"},
	} {
		got, e := Cut(sketch.Path(c.p), c.pen)
		want := c.want
		if c.pen.Phase == 1<<20 {
			// 2^20 is 2621 times 400, and 176 more.
			want = "M 0 0, L 24 0"
		}
		if !slices.Equal(got, sketch.Path(want)) || e != api.OK {
			t.Errorf("%s by %v: %v %d", c.p, c.pen, got, e)
		}
	}
	for _, c := range []struct {
		p   string
		pen api.Pen
		e   api.Errno
	}{{"M 0 0, L 1000 0", pen(0, 1), api.LimitCheck}, {"M -16384 -16384, L 16384 16384", pen(0, 1), api.LimitCheck}, {"L 0 0", api.Pen{}, api.ErrPath}, {"M 0 0, C 1 1 2 2 3 3", api.Pen{}, api.ErrCurve}, {l, pen(0, 0), api.ErrPen}, {l, api.Pen{}, api.ErrPen}} {
		if got, e := Cut(sketch.Path(c.p), c.pen); got != nil || e != c.e {
			t.Errorf("%s by %v: %d", c.p, c.pen, e)
		}
	}
	if p, e := Cut(sketch.Path("M 0 0, L 299 0"), pen(0, 1)); len(p) != 300 || e != api.OK {
		t.Error(len(p), e)
	}
	if _, e := Cut(sketch.Path("M 0 0, L 301 0"), pen(0, 1)); e != api.LimitCheck {
		t.Error(e)
	}
}

// slow cuts a subpath unit by unit.
func slow(p api.Path, k api.Pen) api.Path {
	l := corners(p)
	if len(l) == 1 {
		return p
	}
	left, i, phase := k.Dash[0], 0, k.Phase
	pass := func() {
		left--
		if left == 0 {
			i++
			left = k.Dash[i%len(k.Dash)]
		}
	}
	for range phase {
		pass()
	}
	var out api.Path
	on := -1
	for g := range segments(l) {
		for s := range g.n {
			if i%2 == 0 {
				if on != i {
					out = append(out, api.Step{Kind: api.Move, P: [3]api.Point{g.at(s)}})
					on = i
				}
				if was := i; true {
					pass()
					if i != was || s == g.n-1 {
						out = append(out, api.Step{Kind: api.Line, P: [3]api.Point{g.at(s + 1)}})
					}
				}
			} else {
				pass()
			}
		}
	}
	return out
}

func random(r *rand.Rand) api.Path {
	p := api.Path{{Kind: api.Move, P: [3]api.Point{at(r.Intn(60), r.Intn(60))}}}
	for range r.Intn(8) {
		s := api.Step{Kind: []int{api.Move, api.Line, api.Line, api.Line, api.Close}[r.Intn(5)]}
		if s.Kind != api.Close {
			s.P[0] = at(r.Intn(60), r.Intn(60))
		}
		p, _ = path.Add(p, s)
	}
	return p
}

// P25.3
func TestConsequences(t *testing.T) {
	r := rand.New(rand.NewSource(1))
	for range 2000 {
		p := random(r)
		k := pen(r.Intn(80))
		sum := 0
		for range 1 + r.Intn(4) {
			k.Dash = append(k.Dash, 1+r.Intn(20))
			sum += k.Dash[len(k.Dash)-1]
		}
		got, e := Cut(p, k)
		if e == api.LimitCheck {
			continue
		}
		if flat, e2 := path.Flat(got); e != api.OK || !flat || e2 != api.OK {
			t.Fatal(p, k, e, e2)
		}
		var want api.Path
		parts, _ := path.Parts(p)
		for _, part := range parts {
			want = append(want, slow(part, k)...)
		}
		if !slices.Equal(got, want) {
			t.Fatal(p, k, got, want)
		}
		later := k
		later.Phase += 2 * sum
		if len(k.Dash)%2 == 0 {
			later.Phase -= sum
		}
		if again, _ := Cut(p, later); !slices.Equal(again, got) {
			t.Error("a greater phase", p, k)
		}
		moved, _ := path.Shift(p, 99, -1)
		moved, _ = Cut(moved, k)
		if want, _ := path.Shift(got, 99, -1); !slices.Equal(moved, want) {
			t.Error("shifted", p, k)
		}
		if same, _ := Cut(p, pen(5)); !slices.Equal(same, p) {
			t.Error("without Dash")
		}
	}
}
