package raster

import (
	"chase/api"
	"chase/dash"
	"chase/path"
	"chase/sample"
	"chase/tile"
	"chase/wind"
)

// piece is a part of a shape, with the corners of a box outside of which it does not draw.
type piece struct {
	api.Mark
	low, high api.Point
}

// boxed returns a piece that draws at most so far beyond its path.
func boxed(m api.Mark, beyond int) (piece, bool) {
	low, high, e := path.Box(m.Path)
	if e != api.OK {
		return piece{}, false
	}
	low = api.Point{X: low.X - beyond, Y: low.Y - beyond}
	high = api.Point{X: high.X + beyond, Y: high.Y + beyond}
	return piece{m, low, high}, true
}

func (p piece) draws(q api.Point) bool {
	if q.X < p.low.X || q.X > p.high.X || q.Y < p.low.Y || q.Y > p.high.Y {
		return false
	}
	draws, e := tile.Draws(p.Mark, q)
	return e == api.OK && draws
}

// reach returns how far a stroke reaches beyond its path, at most: miters and square caps are longer than half of the width.
func reach(p api.Pen) int {
	times := 2
	if p.Join == api.JoinMiter {
		times = max(2, p.Limit)
	}
	return (p.Width*times + 1) / 2
}

// pieces divides the shape of a mark: a stroke is dashed, and each of its subpaths is a piece.
func pieces(m api.Mark) []piece {
	parts, beyond := []api.Path{m.Path}, 0
	if m.Kind == api.MStroke {
		cut, _ := dash.Cut(m.Path, m.Pen)
		parts, _ = path.Parts(cut)
		beyond = reach(m.Pen)
		m.Pen.Dash = nil
	}
	var out []piece
	for _, part := range parts {
		m.Path = part
		if p, ok := boxed(m, beyond); ok {
			out = append(out, p)
		}
	}
	return out
}

// answer is an ink, if there is one.
type answer struct {
	ink api.Ink
	ok  bool
}

// prepared is a valid mark whose pixels are asked for.
type prepared struct {
	api.Mark
	pieces []piece
	tiles  map[api.Point]answer // of the pixels of a tile
	kinds  map[int]func(x, y int) (api.Ink, bool)
}

func prepare(m api.Mark) *prepared {
	p := &prepared{Mark: m, tiles: map[api.Point]answer{}}
	p.kinds = map[int]func(x, y int) (api.Ink, bool){
		api.MFill:    p.painted,
		api.MStroke:  p.painted,
		api.MPicture: p.sampled,
		api.MErase:   p.erased,
	}
	if m.Kind == api.MFill || m.Kind == api.MStroke {
		p.pieces = pieces(m)
	}
	return p
}

func prepareAll(l []api.Mark) []*prepared {
	out := make([]*prepared, len(l))
	for i, m := range l {
		out[i] = prepare(m)
	}
	return out
}

func center(x, y int) api.Point {
	return api.Point{X: api.Sub*x + api.Sub/2, Y: api.Sub*y + api.Sub/2}
}

// covers returns the ink with which the mark covers a pixel, if it does.
func (p *prepared) covers(x, y int) (api.Ink, bool) {
	ink, ok := p.kinds[p.Kind](x, y)
	if !ok || !p.clipped(center(x, y)) {
		return api.Ink{}, false
	}
	return ink, true
}

// clipped reports whether a point is inside of all clips.
func (p *prepared) clipped(q api.Point) bool {
	for _, c := range p.Clips {
		if inside, e := wind.Inside(c.Path, c.Even, q); e != api.OK || !inside {
			return false
		}
	}
	return true
}

func (p *prepared) painted(x, y int) (api.Ink, bool) {
	q := center(x, y)
	for _, part := range p.pieces {
		if part.draws(q) {
			return p.paint(x, y)
		}
	}
	return api.Ink{}, false
}

// paint returns the ink of the paint at a pixel. The pixels of a tile are the same in all its repetitions.
func (p *prepared) paint(x, y int) (api.Ink, bool) {
	if p.Paint.Kind != api.PTile {
		ink, ok, e := tile.At(p.Paint, x, y)
		return ink, ok && e == api.OK
	}
	inside := func(n, size int) int { return (n%size + size) % size }
	key := api.Point{X: inside(x-p.Paint.X, p.Paint.W), Y: inside(y-p.Paint.Y, p.Paint.H)}
	known, ok := p.tiles[key]
	if !ok {
		ink, is, e := tile.At(p.Paint, x, y)
		known = answer{ink, is && e == api.OK}
		p.tiles[key] = known
	}
	return known.ink, known.ok
}

func (p *prepared) sampled(x, y int) (api.Ink, bool) {
	ink, ok, e := sample.At(p.Picture, x, y)
	return ink, ok && e == api.OK
}

func (p *prepared) erased(x, y int) (api.Ink, bool) {
	return api.Ink{}, true
}
