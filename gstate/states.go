package gstate

import (
	"chase/api"
	"chase/color"
	"chase/flat"
	"chase/line"
	"chase/matrix"
	"chase/path"
	"chase/shade"
	"chase/tile"
)

// base returns how many graphics states are kept for the last save and those before it.
func (m *machine) base() int {
	n := len(m.Saves)
	if n == 0 {
		return 0
	}
	return min(m.Saves[n-1].States+1, len(m.States))
}

func (m *machine) gsave() {
	n := len(m.States)
	demand(n < api.MaxStates, api.LimitCheck)
	m.States = append(m.States[:n:n], m.G)
}

func (m *machine) grestore() {
	n, base := len(m.States), m.base()
	switch {
	case n > base:
		m.G = m.States[n-1]
		m.States = m.States[: n-1 : n-1]
	case base != 0:
		m.G = m.States[n-1]
	}
}

func (m *machine) grestoreall() {
	switch base := m.base(); {
	case base != 0:
		m.G = m.States[base-1]
		m.States = m.States[:base:base]
	case len(m.States) > 0:
		m.G = m.States[0]
		m.States = nil
	}
}

func (m *machine) initgraphics() {
	g, e := Initial(m.G.W, m.G.H)
	check(e)
	g.Font, g.FontM, g.Flat = m.G.Font, m.G.FontM, m.G.Flat
	m.G = g
}

func (m *machine) setlinewidth() {
	n := m.numbers(1)[0]
	demand(n >= 0, api.RangeCheck)
	w := max(m.length(n), api.Sub)
	demand(w <= api.MaxWidth, api.LimitCheck)
	m.G.Pen.Width = w
}

func (m *machine) setlinecap() {
	m.G.Pen.Cap = within(m.take(ints)[0], api.CapButt, api.CapSquare)
}

func (m *machine) setlinejoin() {
	m.G.Pen.Join = within(m.take(ints)[0], api.JoinMiter, api.JoinNone)
}

func (m *machine) setmiterlimit() {
	limit := m.numbers(1)[0] >> 16
	demand(1 <= limit && limit <= api.MaxLimit, api.RangeCheck)
	m.G.Pen.Limit = limit
}

func (m *machine) setdash() {
	l := m.take(arrays, numbers)
	items := m.items(l[0])
	demand(len(items) <= api.MaxDash, api.RangeCheck)
	var dash []int
	for _, o := range items {
		n := element(o)
		demand(n > 0, api.RangeCheck)
		dash = append(dash, max(m.length(n), 1))
	}
	n := value(l[1])
	demand(n >= 0, api.RangeCheck)
	pen := m.G.Pen
	pen.Dash, pen.Phase = dash, m.length(n)
	demand(line.Check(pen) == api.OK, api.LimitCheck)
	m.G.Pen = pen
}

func (m *machine) setflat() {
	n := m.numbers(1)[0]
	demand(n >= 0, api.RangeCheck)
	m.G.Flat = min(max(n*api.Sub/api.One, 1), api.MaxTolerance)
}

// share returns the nearest number from 0 to One.
func share(n int) int { return min(max(n, 0), api.One) }

func (m *machine) ink(i api.Ink, e api.Errno) {
	check(e)
	m.G.Paint = api.Paint{Kind: api.PInk, Ink: i}
}

func (m *machine) setgray() {
	l := m.numbers(1)
	m.ink(color.Gray(share(l[0])))
}

func (m *machine) setrgbcolor() {
	l := m.numbers(3)
	m.ink(color.Rgb(share(l[0]), share(l[1]), share(l[2])))
}

func (m *machine) setcmykcolor() {
	l := m.numbers(4)
	m.ink(color.Cmyk(share(l[0]), share(l[1]), share(l[2]), share(l[3])))
}

func (m *machine) settile() {
	l := m.take(ints, ints)
	w, h := within(l[0], 1, api.MaxCell), within(l[1], 1, api.MaxCell)
	demand(m.G.Paint.Kind == api.PInk, api.InvalidAccess)
	m.current()
	p, e := flat.Flatten(m.G.Path, m.G.Flat)
	check(e)
	low, _, e := path.Box(p)
	check(e)
	x, y := low.X>>4, low.Y>>4
	p, e = path.Shift(p, -api.Sub*x, -api.Sub*y)
	check(e)
	cell := []api.Mark{{Kind: api.MFill, Path: p, Paint: m.G.Paint}}
	paint := api.Paint{Kind: api.PTile, W: w, H: h, X: x, Y: y, Cell: cell}
	demand(tile.Check(paint) == api.OK, api.LimitCheck)
	m.G.Paint, m.G.Path = paint, nil
}

// listedInk returns the ink that an array contains.
func (m *machine) listedInk(o api.Obj) api.Ink {
	l := m.list(o, 4)
	i, e := color.Cmyk(share(l[0]), share(l[1]), share(l[2]), share(l[3]))
	check(e)
	return i
}

// gradient makes a gradient between two inks the paint.
func (m *machine) gradient(s api.Shade) {
	s.Ext0, s.Ext1 = true, true
	demand(shade.Check(s) == api.OK, api.LimitCheck)
	m.G.Paint = api.Paint{Kind: api.PShade, Shade: s}
}

func (m *machine) setaxial() {
	l := m.take(numbers, numbers, numbers, numbers, arrays, arrays)
	n := values(l[:4])
	s := api.Shade{Kind: api.ShadeAxial, Ink0: m.listedInk(l[4]), Ink1: m.listedInk(l[5])}
	s.From, s.To = m.point(n[0], n[1]), m.point(n[2], n[3])
	m.gradient(s)
}

func (m *machine) setradial() {
	l := m.take(numbers, numbers, numbers, numbers, arrays, arrays)
	n := values(l[:2])
	var radii [2]int
	for i := range radii {
		radii[i] = value(l[2+i])
		demand(radii[i] >= 0, api.RangeCheck)
	}
	s := api.Shade{Kind: api.ShadeRadial, Ink0: m.listedInk(l[4]), Ink1: m.listedInk(l[5])}
	s.From, s.R0, s.R1 = m.point(n[0], n[1]), m.length(radii[0]), m.length(radii[1])
	m.gradient(s)
}

// transformed makes a matrix the CTM.
func (m *machine) transformed(x api.Matrix, e api.Errno) {
	check(e)
	m.G.CTM = x
}

func (m *machine) translate() {
	n := m.numbers(2)
	m.transformed(matrix.Translate(m.G.CTM, n[0], n[1]))
}

func (m *machine) scale() {
	n := m.numbers(2)
	m.transformed(matrix.Scale(m.G.CTM, n[0], n[1]))
}

func (m *machine) rotate() {
	n := m.numbers(1)
	m.transformed(matrix.Rotate(m.G.CTM, n[0]))
}

func (m *machine) concat() {
	x := m.matrix(m.take(arrays)[0])
	m.transformed(matrix.Concat(x, m.G.CTM))
}
