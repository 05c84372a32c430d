package impose

import (
	"math/rand"
	"reflect"
	"slices"
	"testing"

	"chase/api"
	"chase/raster"
)

var plan = api.Plan{W: 20, H: 10, Across: 2, Down: 1, CellW: 8, CellH: 8, Left: 1, Top: 1, GapX: 2}

func with(f func(*api.Plan)) api.Plan {
	p := plan
	f(&p)
	return p
}

// box is the path of a rectangle, in pixels.
func box(x0, y0, x1, y1 int) api.Path {
	return api.Path{corner(api.Move, x0, y0), corner(api.Line, x1, y0), corner(api.Line, x1, y1), corner(api.Line, x0, y1), {Kind: api.Close}}
}

func mark(n int, p api.Path) api.Mark {
	return api.Mark{Kind: api.MFill, Path: p, Paint: api.Paint{Kind: api.PInk, Ink: api.Ink{n}}}
}

func page(w, h, marks int) api.Page {
	p := api.Page{W: w, H: h}
	for i := range marks {
		p.Marks = append(p.Marks, mark(i+1, box(0, 0, i+2, 30)))
	}
	return p
}

// P44.1
func TestPlans(t *testing.T) {
	for i, p := range []api.Plan{plan, {W: 1, H: 1, Across: 1, Down: 1, CellW: 1, CellH: 1}, {W: 256, H: 256, Across: 8, Down: 8, CellW: 32, CellH: 1, GapY: 30}, {W: 256, H: 256, Across: 1, Down: 1, CellW: 128, CellH: 128, Left: 128, Top: 128, GapX: 256, GapY: 256}} {
		if e := Check(p); e != api.OK {
			t.Error(i, e)
		}
	}
	for i, p := range []api.Plan{
		{}, with(func(p *api.Plan) { p.W = 18 }), with(func(p *api.Plan) { p.W = 257 }), with(func(p *api.Plan) { p.H = 8 }), with(func(p *api.Plan) { p.H = 257 }), with(func(p *api.Plan) { p.Across = 0 }), with(func(p *api.Plan) { p.Across, p.CellW, p.GapX = 9, 1, 0 }), with(func(p *api.Plan) { p.Down = 0 }), with(func(p *api.Plan) { p.Down, p.CellH = 9, 1 }), with(func(p *api.Plan) { p.CellW = 0 }), with(func(p *api.Plan) { p.CellH = 0 }),
		with(func(p *api.Plan) { p.W, p.Across, p.CellW = 256, 1, 129 }), with(func(p *api.Plan) { p.H, p.CellH = 256, 129 }), with(func(p *api.Plan) { p.Left = -1 }), with(func(p *api.Plan) { p.Top = -1 }), with(func(p *api.Plan) { p.GapX = -1 }), with(func(p *api.Plan) { p.GapY = -1 }), with(func(p *api.Plan) { p.GapX = 4 }), with(func(p *api.Plan) { p.GapY = 257 }), with(func(p *api.Plan) { p.Left = 2; p.GapX = 3 }), with(func(p *api.Plan) { p.Top = 3 }), with(func(p *api.Plan) { p.Left = 1 << 62; p.GapX = 1 << 62 }),
	} {
		x, y, e := Place(p, 999)
		l, e2 := Sheets(nil, p, make([]int, 99))
		if Check(p) != api.ErrPlan || x != 0 || y != 0 || e != api.ErrPlan || l != nil || e2 != api.ErrPlan {
			t.Error(i, e, e2)
		}
	}
	if Check(with(func(p *api.Plan) { p.W = 19 })) != api.OK || Check(with(func(p *api.Plan) { p.H = 9 })) != api.OK {
		t.Error("the right and the lower edge")
	}
	four := api.Plan{W: 100, H: 100, Across: 3, Down: 2, CellW: 10, CellH: 20, Left: 5, Top: 6, GapX: 7, GapY: 8}
	for k, want := range [][2]int{{5, 6}, {22, 6}, {39, 6}, {5, 34}, {22, 34}, {39, 34}} {
		if x, y, e := Place(four, k); x != want[0] || y != want[1] || e != api.OK {
			t.Error(k, x, y, e)
		}
	}
	for _, k := range []int{-1, 6, 1 << 62} {
		if x, y, e := Place(four, k); x != 0 || y != 0 || e != api.ErrArg {
			t.Error(k, e)
		}
	}
}

// P44.2
func TestSheets(t *testing.T) {
	one := page(8, 8, 1)
	old := reflect.ValueOf(one.Marks).Pointer()
	l, e := Sheets([]api.Page{one}, plan, []int{0, -1, 0})
	if len(l) != 2 || e != api.OK || len(l[0].Marks) != 1 || len(l[1].Marks) != 1 || l[0].W != 20 || l[0].H != 10 {
		t.Fatal(l, e)
	}
	if clips := l[0].Marks[0].Clips; len(clips) != 1 || clips[0].Even || !slices.Equal(clips[0].Path, box(1, 1, 9, 9)) || l[0].Marks[0].Path[0].P[0] != (api.Point{X: 16, Y: 16}) {
		t.Error(clips)
	}
	if len(one.Marks[0].Clips) != 0 || reflect.ValueOf(one.Marks).Pointer() != old {
		t.Error("the page was changed")
	}
	if l, e := Sheets(nil, plan, nil); len(l) != 0 || e != api.OK {
		t.Error(l, e)
	}
	if l, e := Sheets(nil, plan, []int{-1, -1, -1}); len(l) != 2 || len(l[0].Marks) != 0 || e != api.OK {
		t.Error(l, e)
	}
	clipped := func(n int) api.Page {
		p := page(8, 8, 2)
		p.Marks[1].Clips = make([]api.Clip, n)
		return p
	}
	far := page(8, 8, 1)
	far.Marks[0].Path = api.Path{{Kind: api.Move, P: [3]api.Point{{X: api.MaxDevice}}}}
	small := api.Plan{W: 256, H: 256, Across: 2, Down: 1, CellW: 8, CellH: 8}
	for i, c := range []struct {
		pages []api.Page
		p     api.Plan
		order []int
		e     api.Errno
	}{
		{make([]api.Page, 21), api.Plan{}, nil, api.ErrLong}, {[]api.Page{one, {}}, api.Plan{}, nil, raster.CheckPage(api.Page{})}, {[]api.Page{one}, api.Plan{}, make([]int, 41), api.ErrPlan}, {[]api.Page{one}, plan, slices.Repeat([]int{7}, 41), api.ErrLong}, {[]api.Page{one}, plan, []int{0, 1}, api.ErrArg}, {[]api.Page{one}, plan, []int{-2}, api.ErrArg}, {nil, plan, []int{0}, api.ErrArg},
		{[]api.Page{page(9, 8, 0)}, plan, []int{0}, api.ErrArg}, {[]api.Page{page(8, 9, 0)}, plan, []int{0}, api.ErrArg}, {[]api.Page{page(9, 8, 0), one}, plan, []int{1}, 0}, {[]api.Page{clipped(8), page(9, 8, 0)}, plan, []int{0, 1}, api.ErrArg}, {[]api.Page{clipped(8)}, plan, []int{0}, api.ErrBig}, {[]api.Page{clipped(7)}, plan, []int{0}, 0}, {[]api.Page{clipped(8), one}, plan, []int{1}, 0}, {[]api.Page{far, clipped(8)}, plan, []int{0, 1}, api.ErrBig},
		{[]api.Page{far}, plan, []int{0}, api.LimitCheck}, {[]api.Page{far}, small, []int{0}, 0}, {[]api.Page{far}, small, []int{0, 0}, api.LimitCheck}, {[]api.Page{page(8, 8, 250), page(8, 8, 200), page(8, 8, 151)}, with(func(p *api.Plan) { p.W, p.H, p.Across = 60, 60, 4 }), []int{0, 1, 1, 2}, api.ErrBig}, {[]api.Page{page(8, 8, 250), page(8, 8, 200), page(8, 8, 150)}, with(func(p *api.Plan) { p.W, p.H, p.Across = 60, 60, 4 }), []int{0, 1, 1, 2}, 0}, {[]api.Page{one}, plan, make([]int, 40), 0},
	} {
		l, e := Sheets(c.pages, c.p, c.order)
		if e != c.e || e != api.OK && l != nil {
			t.Error(i, e, c.e)
		}
		for _, s := range l {
			if raster.CheckPage(s) != api.OK {
				t.Error(i, "an invalid sheet")
			}
		}
	}
}

// P44.3
func TestBooklet(t *testing.T) {
	for n, want := range map[int][]int{5: {-1, 0, 1, -1, -1, 2, 3, 4}, 1: {-1, 0, -1, -1}, 4: {3, 0, 1, 2}, 8: {7, 0, 1, 6, 5, 2, 3, 4}} {
		if l, e := Booklet(n); !slices.Equal(l, want) || e != api.OK {
			t.Error(n, l, e)
		}
	}
	for _, n := range []int{0, -1, 21, 1 << 62} {
		if l, e := Booklet(n); l != nil || e != api.ErrArg {
			t.Error(n, e)
		}
	}
}

// P44.4
func TestConsequences(t *testing.T) {
	r := rand.New(rand.NewSource(1))
	for range 60 {
		p := api.Plan{W: 40 + r.Intn(20), H: 30 + r.Intn(20), Across: 1 + r.Intn(3), Down: 1 + r.Intn(2), CellW: 8 + r.Intn(4), CellH: 8 + r.Intn(4), Left: r.Intn(3), Top: r.Intn(3), GapX: r.Intn(2), GapY: r.Intn(3)}
		if Check(p) != api.OK {
			continue
		}
		var pages []api.Page
		for range 3 {
			x := api.Page{W: 1 + r.Intn(p.CellW), H: 1 + r.Intn(p.CellH)}
			for k := range 3 {
				a, b := r.Intn(12)-3, r.Intn(12)-3
				m := mark(k+1, box(a, b, a+r.Intn(14), b+r.Intn(14)))
				if r.Intn(2) == 0 {
					m.Clips = []api.Clip{{Path: box(a+1, b, a+5, b+6)}}
				}
				x.Marks = append(x.Marks, m)
			}
			pages = append(pages, x)
		}
		var order []int
		for range r.Intn(9) {
			order = append(order, r.Intn(4)-1)
		}
		sheets, e := Sheets(pages, p, order)
		if e != api.OK {
			t.Fatal(e)
		}
		n := p.Across * p.Down
		for s, sheet := range sheets {
			want := make([][]api.Ink, p.H)
			for i := range want {
				want[i] = make([]api.Ink, p.W)
			}
			for k := range n {
				if i := s*n + k; i < len(order) && order[i] >= 0 {
					x, y, _ := Place(p, k)
					shown := pages[order[i]]
					rows, _ := raster.Band(shown, 0, shown.H)
					for j, row := range rows {
						copy(want[y+j][x:], row)
					}
				}
			}
			if rows, _ := raster.Band(sheet, 0, p.H); !reflect.DeepEqual(rows, want) {
				t.Fatal("a sheet shows each page at its place")
			}
		}
	}
	for n := 1; n <= 20; n++ {
		l, _ := Booklet(n)
		seen := map[int]int{}
		for _, i := range l {
			seen[i]++
		}
		for i := range n {
			if seen[i] != 1 {
				t.Error(n, l)
			}
		}
		for i := 0; i < len(l); i += 2 {
			if l[i] >= 0 && l[i+1] >= 0 && l[i]+l[i+1] != len(l)-1 {
				t.Error(n, l)
			}
		}
	}
}
