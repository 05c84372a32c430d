package raster

import (
	"chase/api"
	"chase/path"
)

// Shift returns marks that are shifted by x and y pixels.
func Shift(l []api.Mark, x, y int) ([]api.Mark, api.Errno) {
	for _, m := range l {
		if e := CheckMark(m); e != api.OK {
			return nil, e
		}
	}
	const most = api.MaxSheet
	if x < -most || x > most || y < -most || y > most {
		return nil, api.ErrArg
	}
	out := make([]api.Mark, len(l))
	for i, m := range l {
		shifted, e := shift(m, x, y)
		if e != api.OK || CheckMark(shifted) != api.OK {
			return nil, api.LimitCheck
		}
		out[i] = shifted
	}
	return out, api.OK
}

// shift shifts a valid mark. Something else than the paths may leave its limits by that.
func shift(m api.Mark, x, y int) (api.Mark, api.Errno) {
	moved, e := path.Shift(m.Path, api.Sub*x, api.Sub*y)
	if e != api.OK {
		return api.Mark{}, e
	}
	m.Path = moved
	clips := make([]api.Clip, len(m.Clips))
	for i, c := range m.Clips {
		c.Path, e = path.Shift(c.Path, api.Sub*x, api.Sub*y)
		if e != api.OK {
			return api.Mark{}, e
		}
		clips[i] = c
	}
	m.Clips = clips
	m.Paint = shiftPaint(m.Paint, x, y)
	if m.Kind == api.MPicture {
		m.Picture.M.E += api.One * x
		m.Picture.M.F += api.One * y
	}
	return m, api.OK
}

func shiftPoint(p api.Point, x, y int) api.Point {
	return api.Point{X: p.X + api.Sub*x, Y: p.Y + api.Sub*y}
}

func shiftPaint(p api.Paint, x, y int) api.Paint {
	switch p.Kind {
	case api.PShade:
		p.Shade.From = shiftPoint(p.Shade.From, x, y)
		if p.Shade.Kind == api.ShadeAxial {
			p.Shade.To = shiftPoint(p.Shade.To, x, y)
		}
	case api.PTile:
		p.X += x
		p.Y += y
	}
	return p
}
