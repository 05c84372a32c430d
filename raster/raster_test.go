package raster

import (
	"math/rand"
	"reflect"
	"testing"

	"chase/api"
	"chase/path"
	"chase/sample"
	"chase/tile"
	"chase/tone"
	"chase/wind"
)

func at(x, y int) api.Point { return api.Point{X: x, Y: y} }

// box is the path of a rectangle.
func box(x0, y0, x1, y1 int) api.Path {
	p := api.Path{{Kind: api.Move, P: [3]api.Point{at(x0, y0)}}}
	for _, q := range []api.Point{at(x1, y0), at(x1, y1), at(x0, y1)} {
		p = append(p, api.Step{Kind: api.Line, P: [3]api.Point{q}})
	}
	return append(p, api.Step{Kind: api.Close})
}

func inked(c, m, y, k int) api.Paint {
	return api.Paint{Kind: api.PInk, Ink: api.Ink{c, m, y, k}}
}

func clip(p api.Path) []api.Clip { return []api.Clip{{Path: p}} }

// example is the page G of the chapter's examples.
func example() api.Page {
	return api.Page{W: 4, H: 3, Marks: []api.Mark{
		{Kind: api.MFill, Path: box(0, 0, 32, 32), Paint: inked(1, 0, 0, 0)},
		{Kind: api.MFill, Path: box(16, 16, 64, 48), Paint: inked(0, 2, 0, 0), Clips: clip(box(16, 0, 48, 48))},
		{Kind: api.MErase, Clips: clip(box(32, 32, 48, 48))},
	}}
}

var (
	stroke  = api.Mark{Kind: api.MStroke, Path: box(16, 16, 64, 48), Pen: api.Pen{Width: 16, Limit: 10, Dash: []int{20}}, Paint: inked(0, 0, 3, 0)}
	picture = api.Mark{Kind: api.MPicture, Picture: api.Picture{W: 2, H: 1, N: 1, Data: "\x00\xff", M: api.Matrix{A: api.One, D: api.One}}}
	shaded  = api.Mark{Kind: api.MFill, Path: box(0, 0, 32, 32), Paint: api.Paint{Kind: api.PShade, Shade: api.Shade{Kind: api.ShadeAxial, To: at(100, 0), Ink1: api.Ink{9, 9, 9, 200}}}}
	tiled   = api.Mark{Kind: api.MFill, Path: box(0, 0, 99, 99), Paint: api.Paint{Kind: api.PTile, W: 2, H: 3, Cell: []api.Mark{{Kind: api.MFill, Path: box(0, 0, 16, 32), Paint: inked(7, 0, 0, 0)}}}}
)

// P31.1
func TestCheck(t *testing.T) {
	g := example()
	for _, m := range append(g.Marks, stroke, picture, shaded, tiled) {
		if e := CheckMark(m); e != api.OK {
			t.Error(m, e)
		}
	}
	change := func(m api.Mark, f func(*api.Mark)) api.Mark { f(&m); return m }
	bad := []api.Mark{{}, {Kind: 5}, {Kind: -1}}
	for _, f := range []func(*api.Mark){func(m *api.Mark) { m.Even = true }, func(m *api.Mark) { m.Path = box(0, 0, 1, 1) }, func(m *api.Mark) { m.Pen.Width = 1 }, func(m *api.Mark) { m.Pen.Dash = []int{1} }, func(m *api.Mark) { m.Paint.Kind = 1 }, func(m *api.Mark) { m.Paint.Cell = make([]api.Mark, 1) }, func(m *api.Mark) { m.Paint.X = 1 }, func(m *api.Mark) { m.Paint.Ink[0] = 1 }, func(m *api.Mark) { m.Paint.Shade.R0 = 1 }} {
		bad = append(bad, change(g.Marks[2], f), change(picture, f))
	}
	bad = append(bad,
		change(g.Marks[2], func(m *api.Mark) { m.Picture.W = 1 }), change(picture, func(m *api.Mark) { m.Picture.W = 3 }), change(g.Marks[0], func(m *api.Mark) { m.Picture.W = 1 }), change(g.Marks[0], func(m *api.Mark) { m.Pen.Width = 1 }), change(g.Marks[0], func(m *api.Mark) { m.Paint.Ink[0] = -1 }),
		change(stroke, func(m *api.Mark) { m.Pen.Width = 0 }), change(stroke, func(m *api.Mark) { m.Paint = api.Paint{} }), change(g.Marks[0], func(m *api.Mark) { m.Clips = make([]api.Clip, 9) }), change(g.Marks[0], func(m *api.Mark) { m.Clips = clip(box(0, 0, 1, 1)[1:]) }),
		change(picture, func(m *api.Mark) {
			m.Clips = clip(append(box(0, 0, 1, 1)[:4], api.Step{Kind: api.Curve}))
		}),
	)
	for i, m := range bad {
		p := api.Page{W: 1, H: 1, Marks: []api.Mark{g.Marks[0], m}}
		_, e := Pixel(p, 9, 9)
		_, e2 := Band(p, 9, 0)
		_, e3 := Bits(p, api.Tile{})
		l, e4 := Shift(p.Marks, 999, 0)
		if CheckMark(m) != api.ErrMark || CheckPage(p) != api.ErrPage || e != api.ErrPage || e2 != api.ErrPage || e3 != api.ErrPage || l != nil || e4 != api.ErrMark {
			t.Error(i)
		}
	}
	many := make([]api.Mark, 801)
	for i := range many {
		many[i] = g.Marks[2]
	}
	if CheckPage(api.Page{W: 256, H: 256, Marks: many[:800]}) != api.OK || CheckMark(change(g.Marks[0], func(m *api.Mark) { m.Clips = make([]api.Clip, 8) })) != api.OK {
		t.Error("the limits")
	}
	for _, p := range []api.Page{{W: 0, H: 1}, {W: 1, H: 0}, {W: 257, H: 1}, {W: 1, H: 257}, {W: 1, H: 1, Marks: many}, {W: -1, H: -1}} {
		if CheckPage(p) != api.ErrPage {
			t.Error(p.W, p.H)
		}
	}
}

// P31.2, P31.3
func TestExample(t *testing.T) {
	g := example()
	cyan, magenta, paper := api.Ink{1, 0, 0, 0}, api.Ink{0, 2, 0, 0}, api.Ink{}
	for _, c := range []struct {
		x, y int
		want api.Ink
	}{{0, 0, cyan}, {1, 1, magenta}, {2, 1, magenta}, {3, 1, paper}, {2, 2, paper}, {1, 2, magenta}} {
		if i, e := Pixel(g, c.x, c.y); i != c.want || e != api.OK {
			t.Error(c, i, e)
		}
	}
	for _, c := range [][2]int{{4, 0}, {0, 3}, {-1, 0}, {0, -1}} {
		if i, e := Pixel(g, c[0], c[1]); i != paper || e != api.ErrArg {
			t.Error(c, e)
		}
	}
	if rows, e := Band(g, 0, 1); !reflect.DeepEqual(rows, [][]api.Ink{{cyan, cyan, paper, paper}}) || e != api.OK {
		t.Error(rows, e)
	}
	if rows, e := Band(g, 2, 2); len(rows) != 0 || e != api.OK {
		t.Error(rows, e)
	}
	for _, c := range [][2]int{{2, 4}, {-1, 1}, {2, 1}} {
		if rows, e := Band(g, c[0], c[1]); rows != nil || e != api.ErrArg {
			t.Error(c, e)
		}
	}
}

// P31.4
func TestBits(t *testing.T) {
	g := example()
	rows, e := Bits(g, api.Tile{W: 1, H: 1, T: "\x00"})
	if !reflect.DeepEqual(rows, [][]int{{1, 1, 0, 0}, {1, 2, 2, 0}, {0, 2, 0, 0}}) || e != api.OK {
		t.Error(rows, e)
	}
	if rows, e := Bits(g, api.Tile{}); rows != nil || e != api.ErrTile {
		t.Error(e)
	}
	x, _ := tone.Spot(api.SpotDot, 2, 2)
	g.Marks[0].Paint.Ink = api.Ink{100, 0, 200, 255}
	rows, e = Bits(g, x)
	for y := range g.H {
		for i := range g.W {
			one, _ := Pixel(g, i, y)
			if want, _ := tone.Bits(x, one, i, y); rows[y][i] != want || e != api.OK {
				t.Error(i, y, rows[y][i], want)
			}
		}
	}
}

// P31.5
func TestShift(t *testing.T) {
	g := example()
	g.Marks, _ = Shift(g.Marks, 1, 0)
	if i, _ := Pixel(g, 1, 0); i != (api.Ink{1, 0, 0, 0}) {
		t.Error(i)
	}
	if i, _ := Pixel(g, 0, 0); i != (api.Ink{}) {
		t.Error(i)
	}
	for _, c := range [][2]int{{257, 0}, {0, -257}} {
		if l, e := Shift(example().Marks, c[0], c[1]); l != nil || e != api.ErrArg {
			t.Error(e)
		}
	}
	radial := shaded
	radial.Paint.Shade = api.Shade{Kind: api.ShadeRadial, From: at(5, 6), R1: 9}
	l, e := Shift([]api.Mark{shaded, radial, tiled, picture, stroke}, -2, 3)
	if e != api.OK || l[0].Paint.Shade.From != at(-32, 48) || l[0].Paint.Shade.To != at(68, 48) || l[1].Paint.Shade.From != at(-27, 54) || l[1].Paint.Shade.To != at(0, 0) || l[2].Paint.X != -2 || l[2].Paint.Y != 3 || !reflect.DeepEqual(l[2].Paint.Cell, tiled.Paint.Cell) || l[3].Picture.M != (api.Matrix{A: api.One, D: api.One, E: -2 * api.One, F: 3 * api.One}) || l[4].Path[0].P[0] != at(-16, 64) {
		t.Error(l, e)
	}
	far := func(f func(*api.Mark), m api.Mark) {
		t.Helper()
		f(&m)
		if CheckMark(m) != api.OK {
			t.Fatal("not valid before it is shifted")
		}
		if l, e := Shift([]api.Mark{example().Marks[0], m}, 2, 0); l != nil || e != api.LimitCheck {
			t.Error(l, e)
		}
	}
	far(func(m *api.Mark) { m.Path = box(16384, 0, 0, 0) }, example().Marks[0])
	far(func(m *api.Mark) { m.Clips = clip(box(16384, 0, 0, 0)) }, example().Marks[0])
	far(func(m *api.Mark) { m.Paint.Shade.To = at(16384, 0) }, shaded)
	far(func(m *api.Mark) { m.Paint.Shade.From = at(16384, 0) }, radial)
	far(func(m *api.Mark) { m.Paint.X = 1023 }, tiled)
	far(func(m *api.Mark) { m.Picture.M.E = api.MaxMove }, picture)
}

// random is a mark near a page of 24 by 24 pixels.
func random(r *rand.Rand) api.Mark {
	n := func() int { return r.Intn(500) - 60 }
	p := api.Path{{Kind: api.Move, P: [3]api.Point{at(n(), n())}}}
	for range 2 + r.Intn(6) {
		p, _ = path.Add(p, api.Step{Kind: []int{api.Move, api.Line, api.Line, api.Line}[r.Intn(4)], P: [3]api.Point{at(n(), n())}})
	}
	if r.Intn(2) == 0 {
		p, _ = path.Add(p, api.Step{Kind: api.Close})
	}
	m := api.Mark{Kind: 1 + r.Intn(4)}
	switch m.Kind {
	case api.MFill:
		m.Path, m.Even = p, r.Intn(2) == 0
	case api.MStroke:
		m.Path = p
		m.Pen = api.Pen{Width: 1 + r.Intn(60), Cap: r.Intn(3), Join: r.Intn(3), Limit: 1 + r.Intn(12)}
		if r.Intn(2) == 0 {
			m.Pen.Dash, m.Pen.Phase = []int{40 + r.Intn(90), 40 + r.Intn(90)}, r.Intn(99)
		}
	case api.MPicture:
		m.Picture = picture.Picture
		m.Picture.M = api.Matrix{A: r.Intn(9 * api.One), B: r.Intn(5 * api.One), C: -r.Intn(5 * api.One), D: r.Intn(9 * api.One), E: r.Intn(20 * api.One), F: r.Intn(20 * api.One)}
	}
	if m.Kind == api.MFill || m.Kind == api.MStroke {
		m.Paint = []api.Paint{inked(r.Intn(256), 1, 2, 3), shaded.Paint, tiled.Paint}[r.Intn(3)]
	}
	for range r.Intn(3) {
		x, y := n(), n()
		m.Clips = append(m.Clips, api.Clip{Path: box(x, y, x+200, y+300), Even: r.Intn(2) == 0})
	}
	return m
}

// slow returns the ink of a mark at a pixel, by the definition.
func slow(m api.Mark, x, y int) (api.Ink, bool) {
	q := at(16*x+8, 16*y+8)
	for _, c := range m.Clips {
		if in, _ := wind.Inside(c.Path, c.Even, q); !in {
			return api.Ink{}, false
		}
	}
	switch m.Kind {
	case api.MPicture:
		i, ok, _ := sample.At(m.Picture, x, y)
		return i, ok
	case api.MErase:
		return api.Ink{}, true
	}
	if draws, _ := tile.Draws(m, q); !draws {
		return api.Ink{}, false
	}
	i, ok, _ := tile.At(m.Paint, x, y)
	return i, ok
}

// P31.6
func TestConsequences(t *testing.T) {
	r := rand.New(rand.NewSource(1))
	for range 150 {
		p := api.Page{W: 24, H: 24}
		for range 6 {
			if m := random(r); CheckMark(m) == api.OK {
				p.Marks = append(p.Marks, m)
			}
		}
		rows, e := Band(p, 0, p.H)
		if e != api.OK || len(rows) != p.H {
			t.Fatal(e)
		}
		cut := r.Intn(p.H + 1)
		above, _ := Band(p, 0, cut)
		below, _ := Band(p, cut, p.H)
		if !reflect.DeepEqual(append(above, below...), rows) {
			t.Error("cut into bands")
		}
		dx, dy := r.Intn(9)-4, r.Intn(9)-4
		moved, e := Shift(p.Marks, dx, dy)
		if e != api.OK {
			t.Fatal(e)
		}
		movedRows, _ := Band(api.Page{W: 24, H: 24, Marks: moved}, 0, 24)
		for y := range p.H {
			for x := range p.W {
				var want api.Ink
				for _, m := range p.Marks {
					if i, ok := slow(m, x, y); ok {
						want = i
					}
				}
				if rows[y][x] != want {
					t.Fatal("pixel", x, y, rows[y][x], want, p.Marks)
				}
				if u, v := x+dx, y+dy; u >= 0 && u < 24 && v >= 0 && v < 24 && movedRows[v][u] != want {
					t.Fatal("shifted", x, y)
				}
			}
		}
		x, y := r.Intn(24), r.Intn(24)
		if i, e := Pixel(p, x, y); i != rows[y][x] || e != api.OK {
			t.Error("Pixel", x, y)
		}
		p.Marks = append(p.Marks, api.Mark{Kind: api.MErase})
		if i, _ := Pixel(p, x, y); i != (api.Ink{}) {
			t.Error("erased", x, y)
		}
	}
}

func BenchmarkBand(b *testing.B) {
	r := rand.New(rand.NewSource(1))
	p := api.Page{W: 128, H: 128}
	for len(p.Marks) < 200 {
		if m := random(r); m.Kind != api.MErase && CheckMark(m) == api.OK {
			p.Marks = append(p.Marks, m)
		}
	}
	for range b.N {
		Band(p, 0, 128)
	}
}
