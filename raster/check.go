package raster

import (
	"chase/api"
	"chase/path"
	"chase/sample"
	"chase/tile"
)

// zeroPaint reports whether a paint is zero.
func zeroPaint(p api.Paint) bool {
	return p.Kind == 0 && p.Ink == api.Ink{} && p.Shade == api.Shade{} && len(p.Cell) == 0 && [...]int{p.W, p.H, p.X, p.Y} == [4]int{}
}

// zeroPen reports whether a pen is zero.
func zeroPen(p api.Pen) bool {
	return len(p.Dash) == 0 && [...]int{p.Width, p.Cap, p.Join, p.Limit, p.Phase} == [5]int{}
}

// bare reports whether a mark has neither a shape nor a paint.
func bare(m api.Mark) bool {
	return len(m.Path) == 0 && !m.Even && zeroPen(m.Pen) && zeroPaint(m.Paint)
}

func noPicture(m api.Mark) bool {
	return m.Picture == api.Picture{}
}

// CheckMark returns ErrMark for an invalid mark.
func CheckMark(m api.Mark) api.Errno {
	ok := len(m.Clips) <= api.MaxClips
	for _, c := range m.Clips {
		flat, e := path.Flat(c.Path)
		ok = ok && flat && e == api.OK
	}
	switch m.Kind {
	case api.MFill, api.MStroke:
		ok = ok && tile.CheckShape(m) == api.OK && tile.Check(m.Paint) == api.OK && noPicture(m)
	case api.MPicture:
		ok = ok && sample.Check(m.Picture) == api.OK && bare(m)
	case api.MErase:
		ok = ok && noPicture(m) && bare(m)
	default:
		ok = false
	}
	if !ok {
		return api.ErrMark
	}
	return api.OK
}

// CheckPage returns ErrPage for an invalid page.
func CheckPage(p api.Page) api.Errno {
	const most = api.MaxSheet
	if p.W < 1 || p.W > most || p.H < 1 || p.H > most || len(p.Marks) > api.MaxSheetMarks {
		return api.ErrPage
	}
	for _, m := range p.Marks {
		if CheckMark(m) != api.OK {
			return api.ErrPage
		}
	}
	return api.OK
}
