package gstate

import (
	"chase/api"
	"chase/heap"
	"chase/matrix"
	"chase/raster"
)

// clipping adds the flattened path to the clips.
func (m *machine) clipping(even bool) {
	n := len(m.G.Clips)
	demand(n < api.MaxClips-1, api.LimitCheck)
	m.G.Clips = append(m.G.Clips[:n:n], api.Clip{Path: m.flattened(), Even: even})
}

func (m *machine) clip() { m.clipping(false) }

func (m *machine) eoclip() { m.clipping(true) }

func (m *machine) initclip() { m.G.Clips = nil }

// mark adds a mark to those of the page.
func (m *machine) mark(x api.Mark) {
	n := len(m.Marks)
	demand(n < api.MaxMarks && raster.CheckMark(x) == api.OK, api.LimitCheck)
	m.Marks = append(m.Marks[:n:n], x)
}

// paint marks the flattened path, if there is one, and empties it.
func (m *machine) paint(x api.Mark) {
	if len(m.G.Path) == 0 {
		return
	}
	x.Path, x.Paint, x.Clips = m.flattened(), m.G.Paint, m.G.Clips
	m.mark(x)
	m.newpath()
}

func (m *machine) fill() { m.paint(api.Mark{Kind: api.MFill}) }

func (m *machine) eofill() { m.paint(api.Mark{Kind: api.MFill, Even: true}) }

func (m *machine) stroke() { m.paint(api.Mark{Kind: api.MStroke, Pen: m.G.Pen}) }

func (m *machine) image() {
	l := m.take(ints, ints, ints, texts, arrays)
	w, h := within(l[0], 1, api.MaxSamples), within(l[1], 1, api.MaxSamples)
	n := l[2].N
	demand(n == 1 || n == 3 || n == 4, api.RangeCheck)
	data, e := heap.Bytes(m.Heap, l[3])
	check(e)
	demand(len(data) == w*h*n, api.RangeCheck)
	x, e := matrix.Concat(m.matrix(l[4]), m.G.CTM)
	check(e)
	m.mark(api.Mark{Kind: api.MPicture, Picture: api.Picture{W: w, H: h, N: n, Data: data, M: x}, Clips: m.G.Clips})
}

func (m *machine) erasepage() { m.mark(api.Mark{Kind: api.MErase}) }

func (m *machine) copypage() {
	n := len(m.Pages)
	demand(n < api.MaxPages, api.LimitCheck)
	m.Pages = append(m.Pages[:n:n], api.Page{W: m.G.W, H: m.G.H, Marks: m.Marks})
}

func (m *machine) showpage() {
	m.copypage()
	m.Marks = nil
	m.initgraphics()
}
