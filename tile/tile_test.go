package tile

import (
	"math/rand"
	"testing"

	"chase/api"
)

func at(x, y int) api.Point { return api.Point{X: x, Y: y} }

func poly(close bool, l ...int) api.Path {
	var p api.Path
	for i := 0; i < len(l); i += 2 {
		s := api.Step{Kind: api.Line, P: [3]api.Point{at(l[i], l[i+1])}}
		if i == 0 {
			s.Kind = api.Move
		}
		p = append(p, s)
	}
	if close {
		p = append(p, api.Step{Kind: api.Close})
	}
	return p
}

func ink(c, m, y, k int) api.Paint {
	return api.Paint{Kind: api.PInk, Ink: api.Ink{c, m, y, k}}
}

var (
	square = api.Mark{Kind: api.MFill, Path: poly(true, 16, 16, 48, 16, 48, 48, 16, 48), Paint: ink(1, 0, 0, 0)}
	stroke = api.Mark{Kind: api.MStroke, Path: poly(false, 0, 40, 64, 40), Pen: api.Pen{Width: 16, Limit: 1}, Paint: ink(0, 2, 0, 0)}
	tiling = api.Paint{Kind: api.PTile, W: 4, H: 4, Cell: []api.Mark{square, stroke}}
	shaded = api.Paint{Kind: api.PShade, Shade: api.Shade{Kind: api.ShadeAxial, To: at(256, 0), Ink1: api.Ink{0, 0, 0, 255}, Ext1: true}}
)

// changed returns what f makes of a mark.
func changed(m api.Mark, f func(*api.Mark)) api.Mark { f(&m); return m }

func changedPaint(p api.Paint, f func(*api.Paint)) api.Paint { f(&p); return p }

// P30.1
func TestShapes(t *testing.T) {
	bare := api.Mark{Kind: api.MFill}
	dashed := changed(stroke, func(m *api.Mark) { m.Pen.Dash = []int{16, 16} })
	for _, m := range []api.Mark{square, stroke, bare, dashed, changed(square, func(m *api.Mark) { m.Even = true })} {
		if e := CheckShape(m); e != api.OK {
			t.Error(m, e)
		}
	}
	for i, m := range []api.Mark{
		{}, {Kind: api.MPicture}, {Kind: api.MErase}, {Kind: 9}, {Kind: api.MStroke}, changed(square, func(m *api.Mark) { m.Pen.Width = 1 }), changed(square, func(m *api.Mark) { m.Pen.Dash = []int{1} }), changed(square, func(m *api.Mark) { m.Pen.Phase = 1 }), changed(square, func(m *api.Mark) { m.Path = m.Path[1:] }),
		changed(square, func(m *api.Mark) { m.Path = append(m.Path[:4:4], api.Step{Kind: api.Curve}) }), changed(stroke, func(m *api.Mark) { m.Even = true }), changed(stroke, func(m *api.Mark) { m.Pen.Limit = 0 }), changed(stroke, func(m *api.Mark) { m.Path = poly(false, 0, 0, 1000, 0); m.Pen.Dash = []int{1} }),
	} {
		draws, e := Draws(m, at(99999, 0))
		if CheckShape(m) != api.ErrShape || draws || e != api.ErrShape {
			t.Error(i, e)
		}
	}
	hole := changed(square, func(m *api.Mark) {
		m.Path = append(append(api.Path{}, m.Path...), poly(true, 24, 24, 40, 24, 40, 40, 24, 40)...)
	})
	for _, c := range []struct {
		m    api.Mark
		q    api.Point
		want bool
	}{
		{square, at(16, 16), true}, {square, at(48, 20), false}, {stroke, at(30, 48), true}, {stroke, at(30, 49), false}, {dashed, at(10, 40), true}, {dashed, at(20, 40), false}, {dashed, at(33, 40), true}, {bare, at(0, 0), false}, {hole, at(30, 30), true},
		{changed(hole, func(m *api.Mark) { m.Even = true }), at(30, 30), false},
	} {
		if got, e := Draws(c.m, c.q); got != c.want || e != api.OK {
			t.Error(c.m, c.q, got, e)
		}
	}
	for _, q := range []api.Point{at(16385, 0), at(0, -16385)} {
		for _, m := range []api.Mark{square, stroke} {
			if got, e := Draws(m, q); got || e != api.ErrArg {
				t.Error(q, e)
			}
		}
	}
}

// P30.2
func TestCheck(t *testing.T) {
	many := make([]api.Mark, 21)
	for i := range many {
		many[i] = square
	}
	for _, p := range []api.Paint{ink(0, 0, 0, 255), shaded, tiling, {Kind: api.PTile, W: 64, H: 1, X: -1024, Y: 1023}, {Kind: api.PTile, W: 1, H: 64, Cell: many[:20]}} {
		if e := Check(p); e != api.OK {
			t.Error(p, e)
		}
	}
	for i, p := range []api.Paint{
		{}, {Kind: 4}, {Kind: -1}, ink(256, 0, 0, 0), changedPaint(ink(0, 0, 0, 0), func(p *api.Paint) { p.W = 1 }), changedPaint(ink(0, 0, 0, 0), func(p *api.Paint) { p.Y = 1 }), changedPaint(ink(0, 0, 0, 0), func(p *api.Paint) { p.Cell = many[:1] }), changedPaint(ink(0, 0, 0, 0), func(p *api.Paint) { p.Shade.R0 = 1 }),
		changedPaint(shaded, func(p *api.Paint) { p.Ink[0] = 1 }), changedPaint(shaded, func(p *api.Paint) { p.X = 1 }), changedPaint(shaded, func(p *api.Paint) { p.Shade.Kind = 0 }), changedPaint(shaded, func(p *api.Paint) { p.Cell = many[:1] }),
		changedPaint(tiling, func(p *api.Paint) { p.W = 0 }), changedPaint(tiling, func(p *api.Paint) { p.H = 65 }), changedPaint(tiling, func(p *api.Paint) { p.W = 65 }), changedPaint(tiling, func(p *api.Paint) { p.H = 0 }), changedPaint(tiling, func(p *api.Paint) { p.X = 1024 }), changedPaint(tiling, func(p *api.Paint) { p.Y = -1025 }), changedPaint(tiling, func(p *api.Paint) { p.Cell = many }),
		changedPaint(tiling, func(p *api.Paint) { p.Ink[0] = 1 }), changedPaint(tiling, func(p *api.Paint) { p.Shade.Ext0 = true }), changedPaint(tiling, func(p *api.Paint) { p.Cell = []api.Mark{changed(square, func(m *api.Mark) { m.Paint = shaded })} }), changedPaint(tiling, func(p *api.Paint) { p.Cell = []api.Mark{changed(square, func(m *api.Mark) { m.Paint = tiling })} }),
		changedPaint(tiling, func(p *api.Paint) { p.Cell = []api.Mark{square, {Kind: api.MErase}} }), changedPaint(tiling, func(p *api.Paint) {
			p.Cell = []api.Mark{changed(square, func(m *api.Mark) { m.Clips = make([]api.Clip, 1) })}
		}), changedPaint(tiling, func(p *api.Paint) { p.Cell = []api.Mark{changed(square, func(m *api.Mark) { m.Picture.W = 1 })} }), changedPaint(tiling, func(p *api.Paint) { p.Cell = []api.Mark{changed(square, func(m *api.Mark) { m.Paint.Ink[3] = -1 })} }),
	} {
		i2, ok, e := At(p, 9999, 0)
		if Check(p) != api.ErrPaint || i2 != (api.Ink{}) || ok || e != api.ErrPaint {
			t.Error(i, e)
		}
	}
}

// P30.3
func TestAt(t *testing.T) {
	cyan, magenta := api.Ink{1, 0, 0, 0}, api.Ink{0, 2, 0, 0}
	moved := changedPaint(tiling, func(p *api.Paint) { p.X = 1 })
	for _, c := range []struct {
		p    api.Paint
		x, y int
		want api.Ink
		ok   bool
	}{
		{tiling, 1, 1, cyan, true}, {tiling, 1, 2, magenta, true}, {tiling, 0, 2, magenta, true}, {tiling, 0, 0, api.Ink{}, false}, {tiling, 5, -3, cyan, true}, {tiling, -4, 6, magenta, true}, {moved, 2, 1, cyan, true}, {moved, 0, 1, api.Ink{}, false},
		{ink(0, 0, 0, 9), -1024, 1023, api.Ink{0, 0, 0, 9}, true}, {shaded, 0, 0, api.Ink{0, 0, 0, 8}, true}, {shaded, 15, 3, api.Ink{0, 0, 0, 247}, true}, {shaded, 16, 3, api.Ink{0, 0, 0, 255}, true}, {shaded, -1, 3, api.Ink{}, false},
	} {
		if got, ok, e := At(c.p, c.x, c.y); got != c.want || ok != c.ok || e != api.OK {
			t.Error(c.p.Kind, c.x, c.y, got, ok, e)
		}
	}
	for _, c := range [][2]int{{1024, 0}, {-1025, 0}, {0, 1024}, {0, -1025}, {1 << 62, 0}} {
		for _, p := range []api.Paint{ink(0, 0, 0, 9), shaded, tiling} {
			if got, ok, e := At(p, c[0], c[1]); got != (api.Ink{}) || ok || e != api.ErrArg {
				t.Error(c, e)
			}
		}
	}
}

// P30.4
func TestConsequences(t *testing.T) {
	r := rand.New(rand.NewSource(1))
	box := func() api.Mark {
		x, y := r.Intn(100), r.Intn(100)
		return api.Mark{Kind: api.MFill, Path: poly(true, x, y, x+30, y, x+30, y+30, x, y+30), Paint: ink(r.Intn(256), 0, 0, 0)}
	}
	type answer struct {
		i  api.Ink
		ok bool
	}
	get := func(p api.Paint, x, y int) answer {
		i, ok, e := At(p, x, y)
		if e != api.OK {
			t.Fatal(e)
		}
		return answer{i, ok}
	}
	for range 2000 {
		p := api.Paint{Kind: api.PTile, W: 1 + r.Intn(9), H: 1 + r.Intn(9), X: r.Intn(20) - 10, Y: r.Intn(20) - 10}
		for range r.Intn(4) {
			p.Cell = append(p.Cell, box())
		}
		x, y := r.Intn(40)-20, r.Intn(40)-20
		moved := p
		moved.X, moved.Y = p.X+3, p.Y-4
		if get(p, x, y) != get(p, x+5*p.W, y-7*p.H) || get(moved, x+3, y-4) != get(p, x, y) {
			t.Error("repeated or moved", p, x, y)
		}
		m := box()
		more := p
		more.Cell = append(p.Cell[:len(p.Cell):len(p.Cell)], m)
		inside := func(n, size int) int { return (n%size + size) % size }
		draws, _ := Draws(m, at(16*inside(x-p.X, p.W)+8, 16*inside(y-p.Y, p.H)+8))
		want := get(p, x, y)
		if draws {
			want = answer{m.Paint.Ink, true}
		}
		if get(more, x, y) != want {
			t.Error("one more mark", p, x, y)
		}
	}
}
