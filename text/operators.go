package text

import (
	"chase/api"
	"chase/heap"
	"chase/matrix"
	"chase/object"
	"chase/path"
)

// category is the dictionary of all fonts.
func category() api.Obj { return api.Obj{Kind: api.KDict, Ref: api.RefFont} }

// key returns the key of a name.
func key(o api.Obj) api.Obj {
	k, e := object.Key(o)
	check(e)
	return k
}

// matrixOf returns the matrix of a font dictionary.
func (m *setter) matrixOf(d api.Obj) api.Matrix {
	_, x, e := Font(m.State, d)
	check(e)
	return x
}

func (m *setter) definefont() {
	l := m.take(names, dicts)
	m.matrixOf(l[1])
	h, e := heap.Store(m.Heap, category(), key(l[0]), l[1])
	check(e)
	m.Heap = h
	m.push(l[1])
}

func (m *setter) findfont() {
	l := m.take(names)
	d, ok, e := heap.Find(m.Heap, category(), key(l[0]))
	check(e)
	demand(ok && dicts.have(d), api.InvalidFont)
	m.matrixOf(d)
	m.push(d)
}

// cell makes a new cell.
func (m *setter) cell(c api.Cell) int {
	h, ref, e := heap.New(m.Heap, c)
	check(e)
	m.Heap = h
	return ref
}

// derive pushes a new font dictionary with the program of another one, and with another matrix.
func (m *setter) derive(d api.Obj, x api.Matrix, e api.Errno) {
	demand(e == api.OK, api.LimitCheck)
	program, _, e := heap.Find(m.Heap, d, name(keyProgram))
	check(e)
	var items []api.Obj
	for _, n := range [...]int{x.A, x.B, x.C, x.D, x.E, x.F} {
		items = append(items, api.Obj{Kind: api.KReal, N: n})
	}
	list := api.Obj{Kind: api.KArray, Ref: m.cell(api.Cell{Kind: api.CArray, Items: items}), Len: len(items)}
	keys, vals := []api.Obj{name(keyProgram), name(keyMatrix)}, []api.Obj{program, list}
	ref := m.cell(api.Cell{Kind: api.CDict, Max: len(keys), Keys: keys, Vals: vals})
	m.push(api.Obj{Kind: api.KDict, Ref: ref})
}

func (m *setter) scalefont() {
	l := m.take(dicts, numbers)
	old := m.matrixOf(l[0])
	n := value(l[1])
	x, e := matrix.Concat(old, api.Matrix{A: n, D: n})
	m.derive(l[0], x, e)
}

func (m *setter) makefont() {
	l := m.take(dicts, arrays)
	old := m.matrixOf(l[0])
	change, e := listed(m.Heap, l[1])
	check(e)
	x, e := matrix.Concat(old, change)
	m.derive(l[0], x, e)
}

func (m *setter) setfont() {
	l := m.take(dicts)
	x := m.matrixOf(l[0])
	m.G.Font, m.G.FontM = l[0], x
}

func (m *setter) currentfont() { m.push(m.G.Font) }

func (m *setter) show() {
	t := m.contents(m.take(texts)[0])
	f := m.program()
	start := m.current()
	m.paint(m.place(collect(f, t), start, api.Point{}))
}

func (m *setter) ashow() {
	l := m.take(numbers, numbers, texts)
	x, y := value(l[0]), value(l[1])
	t := m.contents(l[2])
	f := m.program()
	start := m.current()
	drawn := collect(f, t)
	a, e := matrix.Vector(m.G.CTM, x, y)
	check(e)
	m.paint(m.place(drawn, start, a))
}

func (m *setter) stringwidth() {
	t := m.contents(m.take(texts)[0])
	drawn := collect(m.program(), t)
	x := m.G.CTM
	x.E, x.F = 0, 0
	demand(x.A*x.D != x.B*x.C, api.UndefinedResult)
	_, end := m.place(drawn, api.Point{}, api.Point{})
	u, v, e := matrix.Back(x, end)
	check(e)
	m.push(api.Obj{Kind: api.KReal, N: u}, api.Obj{Kind: api.KReal, N: v})
}

func (m *setter) charpath() {
	t := m.contents(m.take(texts)[0])
	f := m.program()
	start := m.current()
	paths, end := m.place(collect(f, t), start, api.Point{})
	for _, p := range paths {
		joined, e := path.Join(m.G.Path, p)
		check(e)
		m.G.Path = joined
	}
	m.moveTo(end)
}
