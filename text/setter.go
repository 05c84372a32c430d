package text

import (
	"iter"

	"chase/api"
	"chase/flat"
	"chase/font"
	"chase/glyph"
	"chase/gstate"
	"chase/heap"
	"chase/matrix"
	"chase/path"
	"chase/stack"
)

// setter is a state in which text is set.
type setter struct {
	api.State
}

// kinds is a set of kinds, a bit for each.
type kinds int

const (
	names   kinds = 1 << api.KName
	texts   kinds = 1 << api.KString
	dicts   kinds = 1 << api.KDict
	numbers kinds = 1<<api.KInt | 1<<api.KReal
	arrays  kinds = 1<<api.KArray | 1<<api.KPacked
)

func (k kinds) have(o api.Obj) bool {
	return 0 <= o.Kind && o.Kind < api.Kinds && k>>o.Kind&1 == 1
}

// take removes and returns the highest operands, one of each of the sets of kinds.
func (m *setter) take(sets ...kinds) []api.Obj {
	l, e := stack.Top(m.State, len(sets))
	check(e)
	for i, o := range l {
		demand(sets[i].have(o), api.TypeCheck)
	}
	m.State, e = stack.Drop(m.State, len(sets))
	check(e)
	return l
}

func (m *setter) push(l ...api.Obj) {
	var e api.Errno
	m.State, e = stack.Push(m.State, l...)
	check(e)
}

// value returns the value of a number.
func value(o api.Obj) int {
	n, e := number(o)
	check(e)
	return n
}

// contents returns what a string contains.
func (m *setter) contents(o api.Obj) string {
	s, e := heap.Bytes(m.Heap, o)
	check(e)
	return s
}

// program returns the program of the font of the graphics state.
func (m *setter) program() api.Font {
	f, _, e := Font(m.State, m.G.Font)
	demand(e == api.OK, api.InvalidFont)
	return f
}

// glyphs yields the glyphs of a string.
func glyphs(f api.Font, t string) iter.Seq[api.Glyph] {
	known := map[byte]api.Glyph{}
	return func(yield func(api.Glyph) bool) {
		for i := range len(t) {
			g, ok := known[t[i]]
			if !ok {
				var e api.Errno
				g, e = font.Glyph(f, int(t[i]))
				demand(e == api.OK, api.InvalidFont)
				known[t[i]] = g
			}
			if !yield(g) {
				return
			}
		}
	}
}

// collect returns the glyphs of a string: one that cannot be drawn counts before all limits.
func collect(f api.Font, t string) []api.Glyph {
	var l []api.Glyph
	for g := range glyphs(f, t) {
		l = append(l, g)
	}
	return l
}

func reachable(p api.Point) bool {
	const most = api.MaxCoord
	return -most <= p.X && p.X <= most && -most <= p.Y && p.Y <= most
}

// advance returns a product of an entry of a matrix and a width in units of device space, rounded.
func advance(entry, width int) int {
	const size = 1000 * api.One / api.Sub
	n := entry*width + size/2
	q := n / size
	if n%size < 0 {
		q--
	}
	return q
}

// place returns the paths of glyphs that are set at a point with a further vector, and the last point.
func (m *setter) place(l []api.Glyph, p, a api.Point) ([]api.Path, api.Point) {
	x, e := matrix.Concat(m.G.FontM, m.G.CTM)
	demand(e == api.OK, api.LimitCheck)
	var paths []api.Path
	for _, g := range l {
		drawn, e := glyph.Path(g, x, pixel(p.X), pixel(p.Y))
		demand(e == api.OK, api.LimitCheck)
		paths = append(paths, drawn)
		p.X += advance(x.A, g.Width) + a.X
		p.Y += advance(x.B, g.Width) + a.Y
		demand(reachable(p), api.LimitCheck)
	}
	return paths, p
}

// pixel returns the nearest corner of a pixel.
func pixel(n int) int { return (n + api.Sub/2) >> 4 }

// current returns the current point.
func (m *setter) current() api.Point {
	p, e := path.Current(m.G.Path)
	check(e)
	return p
}

// moveTo adds a Move to the path.
func (m *setter) moveTo(p api.Point) {
	q, e := path.Add(m.G.Path, api.Step{Kind: api.Move, P: [3]api.Point{p}})
	check(e)
	m.G.Path = q
}

// paint marks the paths of glyphs.
func (m *setter) paint(paths []api.Path, end api.Point) {
	for _, p := range paths {
		flattened, e := flat.Flatten(p, api.GlyphFlat)
		check(e)
		m.G.Path = flattened
		m.State, e = gstate.Do(m.State, "fill")
		check(e)
	}
	m.G.Path = nil
	m.moveTo(end)
}
