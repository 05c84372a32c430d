package shade

import (
	"math/rand"
	"testing"

	"chase/api"
)

func at(x, y int) api.Point { return api.Point{X: x, Y: y} }

var (
	black  = api.Ink{0, 0, 0, 200}
	axial  = api.Shade{Kind: api.ShadeAxial, To: at(100, 0), Ink1: black, Ext1: true}
	radial = api.Shade{Kind: api.ShadeRadial, From: at(50, 50), R0: 10, R1: 60, Ink1: black, Ext0: true}
)

// P29.1
func TestCheck(t *testing.T) {
	far := axial
	far.From, far.To = at(-16384, -16384), at(16384, 16384)
	wide := radial
	wide.R0, wide.R1 = 0, 65536
	for _, s := range []api.Shade{axial, radial, far, wide} {
		if e := Check(s); e != api.OK {
			t.Error(s, e)
		}
	}
	for i, s := range []func() api.Shade{
		func() api.Shade { s := axial; s.To = at(0, 0); return s }, func() api.Shade { s := axial; s.R1 = 5; return s }, func() api.Shade { s := axial; s.R0 = 5; return s }, func() api.Shade { s := axial; s.Kind = 0; return s }, func() api.Shade { s := axial; s.Kind = 3; return s },
		func() api.Shade { s := axial; s.Ink0[2] = 256; return s }, func() api.Shade { s := axial; s.Ink1[0] = -1; return s }, func() api.Shade { s := axial; s.From = at(16385, 0); return s }, func() api.Shade { s := axial; s.To = at(0, -16385); return s },
		func() api.Shade { s := radial; s.R0 = 60; return s }, func() api.Shade { s := radial; s.R0 = -1; return s }, func() api.Shade { s := radial; s.R1 = 65537; return s }, func() api.Shade { s := radial; s.To = at(0, 1); return s }, func() api.Shade { return api.Shade{} },
	} {
		x := s()
		ink, ok, e := At(x, at(99999, 0))
		if Check(x) != api.ErrShade || ok || ink != (api.Ink{}) || e != api.ErrShade {
			t.Error(i, x, e)
		}
	}
}

// P29.2
func TestAt(t *testing.T) {
	gray := func(n int) api.Ink { return api.Ink{0, 0, 0, n} }
	for _, c := range []struct {
		s    api.Shade
		q    api.Point
		want api.Ink
		ok   bool
	}{
		{axial, at(0, 7), gray(0), true}, {axial, at(50, -9), gray(100), true}, {axial, at(100, 0), gray(200), true}, {axial, at(101, 0), gray(200), true}, {axial, at(-1, 0), gray(0), false}, {axial, at(33, 0), gray(66), true}, {axial, at(12, 5), gray(24), true},
		{radial, at(50, 50), gray(0), true}, {radial, at(60, 50), gray(0), true}, {radial, at(80, 90), gray(160), true}, {radial, at(50, 110), gray(200), true}, {radial, at(50, 111), gray(0), false},
	} {
		if ink, ok, e := At(c.s, c.q); ink != c.want || ok != c.ok || e != api.OK {
			t.Error(c.q, ink, ok, e)
		}
	}
	for _, q := range []api.Point{at(16385, 0), at(0, -16385)} {
		if ink, ok, e := At(axial, q); ink != (api.Ink{}) || ok || e != api.ErrArg {
			t.Error(q, e)
		}
	}
	far := axial
	far.From, far.To = at(-16384, -16384), at(16384, 16384)
	if ink, ok, e := At(far, at(16384, 16384)); ink != black || !ok || e != api.OK {
		t.Error(ink, ok, e)
	}
}

// P29.3
func TestConsequences(t *testing.T) {
	r := rand.New(rand.NewSource(1))
	ink := func() api.Ink { return api.Ink{r.Intn(256), r.Intn(256), r.Intn(256), r.Intn(256)} }
	for range 3000 {
		point := func() api.Point { return at(r.Intn(200)-100, r.Intn(200)-100) }
		s := api.Shade{Kind: api.ShadeAxial, From: point(), To: point(), Ink0: ink(), Ink1: ink(), Ext0: r.Intn(2) == 0, Ext1: r.Intn(2) == 0}
		if s.From == s.To {
			continue
		}
		get := func(s api.Shade, q api.Point) [5]int {
			i, ok, e := At(s, q)
			if e != api.OK {
				t.Fatal(e)
			}
			out := [5]int{i[0], i[1], i[2], i[3], 0}
			if ok {
				out[4] = 1
			}
			return out
		}
		q := point()
		from, to := get(s, s.From), get(s, s.To)
		if api.Ink(from[:4]) != s.Ink0 || api.Ink(to[:4]) != s.Ink1 {
			t.Error("the ends", s)
		}
		x, y := s.To.X-s.From.X, s.To.Y-s.From.Y
		if get(s, at(q.X-y, q.Y+x)) != get(s, q) {
			t.Error("across", s, q)
		}
		turned := s
		turned.From, turned.To, turned.Ink0, turned.Ink1, turned.Ext0, turned.Ext1 = s.To, s.From, s.Ink1, s.Ink0, s.Ext1, s.Ext0
		if get(turned, q) != get(s, q) {
			t.Error("exchanged", s, q)
		}
		moved := s
		moved.From, moved.To = at(s.From.X+9, s.From.Y-5), at(s.To.X+9, s.To.Y-5)
		if get(moved, at(q.X+9, q.Y-5)) != get(s, q) {
			t.Error("shifted", s, q)
		}
		k := api.Shade{Kind: api.ShadeRadial, From: s.From, R0: r.Intn(50), R1: 50 + r.Intn(50), Ink0: s.Ink0, Ink1: s.Ink1}
		dx, dy := q.X-k.From.X, q.Y-k.From.Y
		if get(k, at(k.From.X-dy, k.From.Y+dx)) != get(k, q) {
			t.Error("around", k, q)
		}
	}
}
