package outline

import (
	"math/rand"
	"reflect"
	"strings"
	"testing"

	"chase/api"
)

// text encodes numbers; those from 1000000 on are operators: op(9), esc(16).
func text(l ...int) string {
	var out []byte
	for _, n := range l {
		switch {
		case n >= 2000000:
			out = append(out, 12, byte(n-2000000))
		case n >= 1000000:
			out = append(out, byte(n-1000000))
		default:
			out = append(out, encoded(n)...)
		}
	}
	return string(out)
}

func op(code int) int  { return 1000000 + code }
func esc(code int) int { return 2000000 + code }

var (
	hsbw, endchar, closepath, ret, call          = op(13), op(14), op(9), op(11), op(10)
	rmoveto, hmoveto, vmoveto                    = op(21), op(22), op(4)
	rlineto, hlineto, vlineto, rrcurveto, vh, hv = op(5), op(6), op(7), op(8), op(30), op(31)
	hstem, vstem, hstem3, vstem3                 = op(1), op(3), esc(2), esc(1)
	div, other, pop, setcurrent, dots            = esc(12), esc(16), esc(17), esc(33), esc(0)
)

// P33.1
func TestNumber(t *testing.T) {
	for n, want := range map[int]string{
		0: "\x8b", 107: "\xf6", -107: "\x20", 108: "\xf7\x00", 1131: "\xfa\xff", -108: "\xfb\x00", -1131: "\xfe\xff", 1132: "\xff\x00\x00\x04\x6c", -1132: "\xff\xff\xff\xfb\x94", 1<<31 - 1: "\xff\x7f\xff\xff\xff", -1 << 31: "\xff\x80\x00\x00\x00",
	} {
		if s, e := Number(n); s != want || e != api.OK {
			t.Errorf("%d: %x %d", n, s, e)
		}
		in := &input{text: want}
		if got, number, ok := in.next(); got != n || !number || !ok || in.at != len(want) {
			t.Errorf("%d is read as %d", n, got)
		}
	}
	for _, n := range []int{1 << 31, -1<<31 - 1} {
		if s, e := Number(n); s != "" || e != api.ErrArg {
			t.Error(n, e)
		}
	}
}

func at(x, y int) [3]api.Point { return [3]api.Point{{X: x, Y: y}} }

func curve(l ...int) api.Step {
	return api.Step{Kind: api.Curve, P: [3]api.Point{{X: l[0], Y: l[1]}, {X: l[2], Y: l[3]}, {X: l[4], Y: l[5]}}}
}

func move(x, y int) api.Step { return api.Step{Kind: api.Move, P: at(x, y)} }
func line(x, y int) api.Step { return api.Step{Kind: api.Line, P: at(x, y)} }

func runs(t *testing.T, subrs []string, code string, want api.Glyph) {
	t.Helper()
	g, e := Run(subrs, code)
	if len(g.Steps) == 0 {
		g.Steps = nil
	}
	if !reflect.DeepEqual(g, want) || e != api.OK || Check(g) != api.OK {
		t.Errorf("%x: %v %d", code, g, e)
	}
}

func fails(t *testing.T, subrs []string, code string, want api.Errno) {
	t.Helper()
	if g, e := Run(subrs, code); !reflect.DeepEqual(g, api.Glyph{}) || e != want {
		t.Errorf("%.60x: %d, want %d", code, e, want)
	}
}

// P33.2
func TestRun(t *testing.T) {
	type path = api.Path
	shut := api.Step{Kind: api.Close}
	runs(t, nil, string([]byte{189, 248, 236, 13, 239, 4, 247, 92, 6, 9, 14}), api.Glyph{Side: 50, Width: 600, Steps: path{move(50, 100), line(250, 100), shut}})
	runs(t, nil, string([]byte{139, 139, 13, 149, 148, 1, 14}), api.Glyph{Stems: []api.Stem{{At: 10, Long: 9}}})
	runs(t, nil, string([]byte{139, 139, 13, 14, 14}), api.Glyph{})
	runs(t, []string{string([]byte{139, 139, 13, 11})}, string([]byte{139, 10, 14}), api.Glyph{})
	runs(t, nil, text(5, 9, hsbw, 1, 2, rmoveto, 3, hmoveto, 4, vmoveto, endchar), api.Glyph{Side: 5, Width: 9, Steps: path{move(9, 6)}})
	runs(t, nil, text(0, 0, hsbw, 1, 2, rmoveto, 3, 4, rlineto, 5, hlineto, 6, vlineto, 1, 1, 1, 1, 1, 1, rrcurveto, 1, 2, 3, 4, vh, 1, 2, 3, 4, hv, closepath, 5, hmoveto, endchar),
		api.Glyph{Steps: path{move(1, 2), line(4, 6), line(9, 6), line(9, 12), curve(10, 13, 11, 14, 12, 15), curve(12, 16, 14, 19, 18, 19), curve(19, 19, 21, 22, 21, 26), shut, move(26, 26)}})
	runs(t, nil, text(0, 0, hsbw, 0, hmoveto, closepath, 7, vmoveto, endchar), api.Glyph{Steps: path{move(0, 0), shut, move(0, 7)}})
	runs(t, nil, text(30, 0, hsbw, 10, 5, vstem, 10, -5, vstem, 1, 2, 3, 4, 5, 6, vstem3, 1, 2, 3, 4, 5, -6, hstem3, dots, endchar), api.Glyph{Side: 30, Stems: []api.Stem{
		{Vertical: true, At: 40, Long: 5}, {Vertical: true, At: 35, Long: 5}, {Vertical: true, At: 31, Long: 2}, {Vertical: true, At: 33, Long: 4}, {Vertical: true, At: 35, Long: 6}, {At: 1, Long: 2}, {At: 3, Long: 4}, {At: -1, Long: 6}}})
	runs(t, nil, text(0, 7, 2, div, hsbw, -7, 2, div, hmoveto, -4, 0, setcurrent, endchar), api.Glyph{Width: 3, Steps: path{move(-4, 0)}})
}

func TestOthers(t *testing.T) {
	// The results of an unknown subroutine: its numbers, the last one first.
	runs(t, nil, text(4, 5, 2, 9, other, pop, pop, hsbw, endchar), api.Glyph{Side: 5, Width: 4})
	runs(t, nil, text(8, 1, 2, 1, -1, other, hsbw, endchar), api.Glyph{Side: 8, Width: 1})
	runs(t, nil, text(7, 5, 1, 3, other, pop, hsbw, endchar), api.Glyph{Side: 7, Width: 3})
	// Each call replaces the results.
	fails(t, nil, text(4, 5, 2, 9, other, 0, 9, other, pop), api.InvalidFont)
}

func flexed(n int, more ...int) []int {
	l := []int{0, 0, hsbw, 10, 10, rmoveto, 0, 1, other}
	for i := range n {
		l = append(l, i+1, i, rmoveto, 0, 2, other)
	}
	return append(l, more...)
}

func TestFlex(t *testing.T) {
	end := []int{50, 38, 31, 3, 0, other, pop, pop, setcurrent}
	runs(t, nil, text(flexed(7, append(end, 1, hlineto, endchar)...)...), api.Glyph{Steps: api.Path{move(10, 10), curve(13, 11, 16, 13, 20, 16), curve(25, 20, 31, 25, 38, 31), line(39, 31)}})
	bad := func(l ...int) { t.Helper(); fails(t, nil, text(l...), api.InvalidFont) }
	bad(flexed(6, append(end, endchar)...)...)
	bad(flexed(7, 0, 2, other, endchar)...)
	bad(flexed(7, 1, 2, 2, 0, other, endchar)...)
	bad(flexed(7, endchar)...)
	bad(flexed(3, 0, 1, other, endchar)...)
	bad(flexed(3, 1, hlineto, endchar)...)
	bad(flexed(3, dots, endchar)...)
	bad(flexed(3, 16, 13, setcurrent, endchar)...)
	bad(flexed(3, 1, 2, hstem, endchar)...)
	bad(flexed(3, closepath, endchar)...)
	bad(0, 0, hsbw, 0, 1, other, endchar)
	bad(0, 0, hsbw, 0, 2, other, endchar)
	bad(0, 0, hsbw, 1, 2, 3, 3, 0, other, endchar)
	bad(0, 0, hsbw, 0, hmoveto, 5, 1, 1, other, endchar)
	bad(0, 0, hsbw, 0, hmoveto, 0, 1, other, 5, 1, 2, other, endchar)
	// What comes with flex may be done in subroutines, and numbers be divided.
	runs(t, []string{text(0, 2, other, ret)}, text(0, 0, hsbw, 1, hmoveto, 0, 1, other, 4, 2, div, hmoveto, 0, call, 1, vmoveto, 0, call, 0, call, 0, call, 0, call, 0, call, 0, call, 0, 3, 1, 3, 0, other, endchar), api.Glyph{Steps: api.Path{move(1, 0), curve(3, 1, 3, 1, 3, 1), curve(3, 1, 3, 1, 3, 1)}})
}

func repeat(n int, l ...int) []int {
	var out []int
	for range n {
		out = append(out, l...)
	}
	return out
}

func TestErrors(t *testing.T) {
	bad := func(l ...int) { t.Helper(); fails(t, nil, text(l...), api.InvalidFont) }
	bad()
	bad(0, 0, hsbw)
	bad(endchar)
	bad(0, hsbw)
	bad(0, 0, 0, hsbw)
	bad(0, 0, hsbw, 0, 0, hsbw)
	bad(0, 0, hsbw, 0, endchar)
	bad(0, 0, hsbw, 1, rmoveto)
	bad(0, 0, hsbw, 1, 1, 1, rmoveto)
	bad(1, hmoveto)
	bad(1, 2, hstem)
	bad(dots)
	for _, l := range [][]int{{1, hlineto}, {1, vlineto}, {1, 1, rlineto}, {1, 1, 1, 1, 1, 1, rrcurveto}, {closepath}, {1, 1, 1, 1, vh}, {1, 1, 1, 1, hv}} {
		bad(append([]int{0, 0, hsbw}, append(l, endchar)...)...)
		bad(append([]int{0, 0, hsbw, 0, hmoveto, closepath}, append(l, endchar)...)...)
	}
	bad(0, 0, hsbw, 5, 0, hstem, endchar)
	bad(0, 0, hsbw, 5, 1, 40000, 1, 6, 0, vstem3, endchar)
	bad(0, 0, hsbw, 1, 0, setcurrent, endchar)
	bad(ret)
	bad(0, call)
	bad(call)
	bad(div)
	bad(1, div)
	bad(1, 0, div)
	bad(pop)
	bad(0, 0, 1, other, endchar)
	bad(0, other)
	bad(other)
	bad(1, 2, 9, other)
	bad(-1, 9, other)
	bad(5, 2, 2, 3, other)
	bad(0, 3, other)
	for _, s := range []string{"\x0c", "\xf7", "\xfb", "\xff\x00\x00\x00", "\x00", "\x02", "\x0f", "\x1f\x0c", "\x0c\x03", "\x0c\xff", "\x10", "\x1d"} {
		fails(t, nil, s, api.InvalidFont)
	}
	fails(t, []string{text(0, 0, hsbw)}, text(0, call, endchar), api.InvalidFont)
	fails(t, []string{text(ret)}, text(-1, call, endchar), api.InvalidFont)
	fails(t, []string{text(ret)}, text(1, call, endchar), api.InvalidFont)
	long := strings.Repeat("\x8b", 4001)
	fails(t, nil, long, api.ErrLong)
	fails(t, []string{"", long}, "", api.ErrLong)
	fails(t, make([]string, 201), "", api.ErrLong)
	fails(t, make([]string, 200), long[:4000], api.LimitCheck)
}

func TestLimits(t *testing.T) {
	limit := func(l ...int) { t.Helper(); fails(t, nil, text(l...), api.LimitCheck) }
	good := func(l ...int) {
		t.Helper()
		if _, e := Run(nil, text(l...)); e != api.OK {
			t.Error(e)
		}
	}
	start := []int{0, 0, hsbw}
	with := func(l ...int) []int { return append(append([]int{}, start...), append(l, endchar)...) }
	limit(32001, 0, hsbw)
	limit(0, -32001, hsbw)
	good(32000, -32000, hsbw, endchar)
	limit(with(32001, hmoveto)...)
	limit(with(0, -32001, rmoveto)...)
	limit(with(0, hmoveto, 40000, 1, -40000, 1, 1, 1, rrcurveto)...)
	limit(with(31999, 2, hstem)...)
	limit(with(-31999, -2, vstem)...)
	good(with(-32000, 64000, hstem)...)
	limit(1, 0, hsbw, 31999, 1, vstem, endchar)
	limit(with(repeat(41, 1, 1, hstem)...)...)
	good(with(repeat(40, 1, 1, hstem)...)...)
	limit(with(append(repeat(38, 1, 1, hstem), 1, 1, 1, 1, 1, 1, vstem3)...)...)
	good(with(append([]int{0, hmoveto}, repeat(299, 0, hlineto)...)...)...)
	limit(with(append([]int{0, hmoveto}, repeat(300, 0, hlineto)...)...)...)
	limit(repeat(25, 0)...)
	good(append(repeat(22, 0), 22, 5, other, 0, 0, hsbw, endchar)...)
	fails(t, nil, text(append([]int{5, 1, 5, other}, append(repeat(24, 0), pop)...)...), api.LimitCheck)
	// Of one operator InvalidFont is found before the other limits, but after too many operators.
	fails(t, nil, text(with(40000, hlineto)...), api.InvalidFont)
	fails(t, nil, text(with(1, 0, 40000, 0, 1, 1, hstem3)...), api.InvalidFont)
	fails(t, []string{text(0, call)}, text(0, call), api.LimitCheck)
	deep := func(n int) []string {
		var l []string
		for i := range n {
			l = append(l, text(i+1, call, ret))
		}
		return append(l, text(0, 0, hsbw, endchar))
	}
	if _, e := Run(deep(9), text(0, call)); e != api.OK {
		t.Error(e)
	}
	fails(t, deep(10), text(0, call), api.LimitCheck)
	// 3004 operators, and then up to 4000 and one more.
	many := []string{text(repeat(999, dots)...) + text(ret)}
	base := text(0, 0, hsbw, 0, call, 0, call, 0, call)
	if _, e := Run(many, base+text(repeat(995, dots)...)+text(endchar)); e != api.OK {
		t.Error(e)
	}
	fails(t, many, base+text(repeat(996, dots)...)+text(endchar), api.LimitCheck)
	fails(t, many, base+text(repeat(996, dots)...)+text(7, 7, hsbw), api.LimitCheck)
}

// P33.3
func TestCheckAndBuild(t *testing.T) {
	g := api.Glyph{Side: 50, Width: 600, Steps: api.Path{move(50, 100), line(250, 100), {Kind: api.Close}}, Stems: []api.Stem{{At: 10, Long: 9}, {Vertical: true, At: 60, Long: 200}}}
	s, e := Build(g)
	if s != text(50, 600, hsbw, 10, 9, hstem, 10, 200, vstem, 0, 100, rmoveto, 200, 0, rlineto, closepath, endchar) || e != api.OK {
		t.Errorf("%x %d", s, e)
	}
	if s, e := Build(api.Glyph{}); s != text(0, 0, hsbw, endchar) || e != api.OK {
		t.Error(s, e)
	}
	many := make([]api.Stem, 41)
	for i := range many {
		many[i].Long = 1
	}
	for i, g := range []api.Glyph{
		{Side: 32001}, {Width: -32001}, {Stems: many}, {Stems: []api.Stem{{}}}, {Stems: []api.Stem{{Long: -1}}}, {Stems: []api.Stem{{At: 32000, Long: 1}}}, {Stems: []api.Stem{{At: -32001, Long: 5}}}, {Stems: []api.Stem{{At: 1 << 62, Long: 1 << 62}}}, {Stems: []api.Stem{{At: -1 << 63, Long: 1<<63 - 1}}},
		{Steps: api.Path{line(0, 0)}}, {Steps: api.Path{{Kind: api.Close}}}, {Steps: api.Path{move(0, 0), move(0, 0)}}, {Steps: api.Path{move(0, 0), {Kind: api.Close}, {Kind: api.Close}}}, {Steps: api.Path{move(0, 0), {Kind: api.Close}, line(0, 0)}}, {Steps: api.Path{move(32001, 0)}}, {Steps: api.Path{move(0, -32001)}},
		{Steps: api.Path{{Kind: api.Move, P: [3]api.Point{{}, {X: 1}}}}}, {Steps: api.Path{move(0, 0), {Kind: api.Close, P: at(1, 1)}}}, {Steps: api.Path{{}}}, {Steps: api.Path{{Kind: 5}}}, {Steps: api.Path{move(0, 0), curve(0, 0, 0, 40000, 0, 0)}}, {Steps: append(api.Path{move(0, 0)}, make(api.Path, 300)...)},
	} {
		s, e := Build(g)
		if Check(g) != api.ErrOutline || s != "" || e != api.ErrOutline {
			t.Error(i, e)
		}
	}
	if Check(api.Glyph{Side: 32000, Stems: many[:40]}) != api.OK {
		t.Error("the limits")
	}
	wide := api.Glyph{Steps: api.Path{move(-32000, -32000)}}
	for i := range 299 {
		x := 32000 - i%2*64000
		wide.Steps = append(wide.Steps, curve(x, x, -x, -x, x, x))
	}
	if s, e := Build(wide); s != "" || e != api.ErrLong {
		t.Error(e)
	}
}

func random(r *rand.Rand) api.Glyph {
	n := func() int { return r.Intn(1<<r.Intn(15)+1) - r.Intn(1<<r.Intn(15)+1) }
	g := api.Glyph{Side: n(), Width: n()}
	for range r.Intn(4) {
		g.Stems = append(g.Stems, api.Stem{Vertical: r.Intn(2) == 0, At: n(), Long: 1 + r.Intn(500)})
	}
	last := api.Close
	for range r.Intn(12) {
		s := api.Step{Kind: 1 + r.Intn(4)}
		if last == api.Close || last == api.Move && s.Kind == api.Move {
			s.Kind = api.Move
			if last == api.Move {
				s.Kind = api.Line
			}
		}
		for i := range points(s) {
			s.P[i] = api.Point{X: n(), Y: n()}
		}
		g.Steps, last = append(g.Steps, s), s.Kind
	}
	return g
}

// P33.4
func TestConsequences(t *testing.T) {
	r := rand.New(rand.NewSource(1))
	for range 2000 {
		g := random(r)
		s, e := Build(g)
		if e != api.OK {
			t.Fatal(e)
		}
		runs(t, nil, s, g)
		// A part in a subroutine
		in, ends := &input{text: s}, []int{0}
		for in.at < len(s) {
			in.next()
			ends = append(ends, in.at)
		}
		a, b := ends[r.Intn(len(ends)-1)], ends[r.Intn(len(ends)-1)]
		if a > b {
			a, b = b, a
		}
		runs(t, []string{s[a:b] + text(ret)}, s[:a]+text(0, call)+s[b:], g)
	}
	known := []int{hsbw, endchar, closepath, ret, call, rmoveto, hmoveto, vmoveto, rlineto, hlineto, vlineto, rrcurveto, vh, hv, hstem, vstem, hstem3, vstem3, div, other, pop, setcurrent, dots}
	for range 20000 {
		l := []int{0, 9, hsbw}
		for range r.Intn(12) {
			op := known[r.Intn(len(known))]
			for range []int{0, 1, 2, 2, 4, 6}[r.Intn(6)] {
				l = append(l, r.Intn(9)-2)
			}
			l = append(l, op)
		}
		s := text(append(l, endchar)...)
		if r.Intn(4) == 0 {
			b := []byte(s)
			b[r.Intn(len(b))] = byte(r.Intn(256))
			s = string(b)
		}
		if g, e := Run([]string{s[3:], text(1, ret)}, s); e == api.OK && Check(g) != api.OK {
			t.Errorf("%x: %v", s, g)
		}
	}
}
