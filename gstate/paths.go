package gstate

import (
	"chase/api"
	"chase/flat"
	"chase/heap"
	"chase/matrix"
	"chase/path"
)

func (m *machine) setmatrix() {
	m.G.CTM = m.matrix(m.take(arrays)[0])
}

func (m *machine) currentmatrix() {
	// A stack that is full counts before a heap that is.
	demand(len(m.Ops) < api.MaxOps, api.StackOverflow)
	x := m.G.CTM
	var items []api.Obj
	for _, n := range [...]int{x.A, x.B, x.C, x.D, x.E, x.F} {
		items = append(items, api.Obj{Kind: api.KReal, N: n})
	}
	h, ref, e := heap.New(m.Heap, api.Cell{Kind: api.CArray, Items: items})
	check(e)
	m.Heap = h
	m.push(api.Obj{Kind: api.KArray, Ref: ref, Len: len(items)})
}

func (m *machine) initmatrix() {
	g, e := Initial(m.G.W, m.G.H)
	check(e)
	m.G.CTM = g.CTM
}

// unit is one unit of device space, in units of 1 / One.
const unit = api.One / api.Sub

func (m *machine) transform() {
	n := m.numbers(2)
	p := m.point(n[0], n[1])
	m.reals(unit*p.X, unit*p.Y)
}

// back pushes the numbers that are mapped to a point.
func (m *machine) back(p api.Point) {
	x, y, e := matrix.Back(m.G.CTM, p)
	check(e)
	m.reals(x, y)
}

func (m *machine) itransform() {
	n := m.numbers(2)
	demand(m.determinant() != 0, api.UndefinedResult)
	p := api.Point{X: (n[0] + unit/2) >> 12, Y: (n[1] + unit/2) >> 12}
	demand(reachable(p.X) && reachable(p.Y), api.LimitCheck)
	m.back(p)
}

func (m *machine) newpath() { m.G.Path = nil }

// add adds a step to the path.
func (m *machine) add(kind int, points ...api.Point) {
	s := api.Step{Kind: kind}
	copy(s.P[:], points)
	p, e := path.Add(m.G.Path, s)
	check(e)
	m.G.Path = p
}

func (m *machine) moveto() {
	n := m.numbers(2)
	m.add(api.Move, m.point(n[0], n[1]))
}

// relative adds a step to the sum of the current point and the vector of two numbers.
func (m *machine) relative(kind int) {
	n := m.numbers(2)
	m.add(kind, m.beyond(m.current(), n[0], n[1]))
}

func (m *machine) rmoveto() { m.relative(api.Move) }

func (m *machine) rlineto() { m.relative(api.Line) }

func (m *machine) lineto() {
	n := m.numbers(2)
	m.current()
	m.add(api.Line, m.point(n[0], n[1]))
}

func (m *machine) curveto() {
	n := m.numbers(6)
	m.current()
	m.add(api.Curve, m.point(n[0], n[1]), m.point(n[2], n[3]), m.point(n[4], n[5]))
}

func (m *machine) rcurveto() {
	n := m.numbers(6)
	p := m.current()
	m.add(api.Curve, m.beyond(p, n[0], n[1]), m.beyond(p, n[2], n[3]), m.beyond(p, n[4], n[5]))
}

func (m *machine) closepath() {
	if len(m.G.Path) > 0 {
		m.add(api.Close)
	}
}

func (m *machine) currentpoint() { m.back(m.current()) }

func (m *machine) pathbbox() {
	low, high, e := path.Box(m.G.Path)
	check(e)
	m.reals(unit*low.X, unit*low.Y, unit*high.X, unit*high.Y)
}

// flattened returns the flattened path.
func (m *machine) flattened() api.Path {
	p, e := flat.Flatten(m.G.Path, m.G.Flat)
	check(e)
	return p
}

func (m *machine) flattenpath() { m.G.Path = m.flattened() }

func (m *machine) reversepath() {
	p, e := path.Reverse(m.G.Path)
	check(e)
	m.G.Path = p
}
