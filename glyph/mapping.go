package glyph

import (
	"chase/api"
	"chase/hint"
	"chase/matrix"
)

// unit is how many glyph units one unit of text space has.
const unit = 1000

// mapping maps the points of a glyph to device space.
type mapping struct {
	api.Matrix
	x, y   int // the origin, in units of device space
	hx, hy api.Hint
}

// scales returns the scales of an upright matrix; ok is false for other ones.
func (m mapping) scales() (sx, sy int, ok bool) {
	if m.B != 0 || m.C != 0 || m.A <= 0 || m.D >= 0 {
		return 0, 0, false
	}
	sx, sy = api.Sub*m.A/unit, -api.Sub*m.D/unit
	return sx, sy, sx >= 1 && sy >= 1
}

// hinted maps a point by an upright matrix.
func (m mapping) hinted(p api.Point) (api.Point, api.Errno) {
	u, e := hint.Map(m.hx, p.X)
	if e != api.OK {
		return api.Point{}, e
	}
	v, e := hint.Map(m.hy, p.Y)
	if e != api.OK {
		return api.Point{}, e
	}
	return api.Point{X: m.x + u, Y: m.y - v}, api.OK
}

// plain maps a point by any matrix.
func (m mapping) plain(p api.Point) (api.Point, api.Errno) {
	return api.Point{X: m.x + scaled(m.A*p.X+m.C*p.Y), Y: m.y + scaled(m.B*p.X+m.D*p.Y)}, api.OK
}

// scaled returns a product of an entry and glyph units in units of device space, rounded.
func scaled(n int) int {
	const size = unit * api.One / api.Sub
	n += size / 2
	q := n / size
	if n%size < 0 {
		q--
	}
	return q
}

// mapped returns how the points of a glyph are mapped.
func mapped(g api.Glyph, m api.Matrix, x, y int) (func(api.Point) (api.Point, api.Errno), api.Errno) {
	if e := matrix.Check(m); e != api.OK {
		return nil, e
	}
	if !within(x, api.MaxPlace) || !within(y, api.MaxPlace) {
		return nil, api.ErrArg
	}
	k := mapping{Matrix: m, x: api.Sub * x, y: api.Sub * y}
	sx, sy, ok := k.scales()
	if !ok {
		return k.plain, api.OK
	}
	var e api.Errno
	if k.hx, e = hint.Fit(g.Stems, true, sx, 0); e != api.OK {
		return nil, e
	}
	if k.hy, e = hint.Fit(g.Stems, false, sy, 0); e != api.OK {
		return nil, e
	}
	return k.hinted, api.OK
}
