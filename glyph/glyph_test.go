package glyph

import (
	"math/rand"
	"reflect"
	"slices"
	"strings"
	"testing"

	"chase/api"
	"chase/flat"
	"chase/font"
	"chase/outline"
	"chase/path"
	"chase/wind"
)

const one = api.One

func at(x, y int) api.Point { return api.Point{X: x, Y: y} }

func poly(l ...int) api.Path {
	var p api.Path
	for i := 0; i < len(l); i += 2 {
		s := api.Step{Kind: api.Line, P: [3]api.Point{at(l[i], l[i+1])}}
		if i == 0 {
			s.Kind = api.Move
		}
		p = append(p, s)
	}
	return append(p, api.Step{Kind: api.Close})
}

var (
	square  = api.Glyph{Steps: poly(0, 0, 1000, 0, 1000, 1000, 0, 1000)}
	upright = api.Matrix{A: 4 * one, D: -4 * one}
	turned  = api.Matrix{B: 4 * one, C: 4 * one}
)

// P36.1
func TestCheck(t *testing.T) {
	move := func(l ...int) api.Step {
		s := api.Step{Kind: api.Move}
		for i := 0; i < len(l); i += 2 {
			s.P[i/2] = at(l[i], l[i+1])
		}
		return s
	}
	stems := make([]api.Stem, 41)
	for i := range stems {
		stems[i] = api.Stem{At: i, Long: 1}
	}
	for i, g := range []api.Glyph{square, {}, {Steps: api.Path{move(32000, -32000)}}, {Side: 1 << 60, Width: -1, Stems: stems[:40]}, {Stems: []api.Stem{{Vertical: true, At: -32000, Long: 64000}}}, {Steps: append(api.Path{move(0, 0)}, slices.Repeat(square.Steps[1:2], 299)...)}} {
		if e := Check(g); e != api.OK {
			t.Error(i, e)
		}
	}
	for i, g := range []api.Glyph{
		{Stems: stems}, {Stems: []api.Stem{{}}}, {Stems: []api.Stem{{Vertical: true, At: 32000, Long: 1}}}, {Stems: []api.Stem{{At: 1 << 62, Long: 1 << 62}}}, {Steps: api.Path{move(32001, 0)}}, {Steps: api.Path{move(0, -32001)}}, {Steps: api.Path{move(0, 0, 1, 0)}}, {Steps: api.Path{move(0, 0, 0, 0, 0, 1)}}, {Steps: square.Steps[1:]}, {Steps: api.Path{move(0, 0), move(0, 0)}}, {Steps: api.Path{{}}}, {Steps: api.Path{move(0, 0), {Kind: 5}}},
		{Steps: api.Path{move(0, 0), {Kind: api.Close, P: [3]api.Point{at(1, 0)}}}}, {Steps: append(api.Path{move(0, 0)}, slices.Repeat(square.Steps[1:2], 300)...)}, {Steps: api.Path{move(0, 0), {Kind: api.Curve, P: [3]api.Point{{}, at(0, 40000), {}}}}},
	} {
		p, e := Path(g, api.Matrix{A: 1 << 40}, 999, 0)
		k, e2 := Draw(g, api.Matrix{A: 1 << 40})
		if Check(g) != api.ErrBadGlyph || p != nil || k != (api.Mask{}) || e != api.ErrBadGlyph || e2 != api.ErrBadGlyph {
			t.Error(i, e, e2)
		}
	}
}

// P36.2
func TestPath(t *testing.T) {
	stemmed := square
	stemmed.Stems = []api.Stem{{Vertical: true, At: 0, Long: 1000}, {At: 0, Long: 300}}
	curved := api.Glyph{Steps: api.Path{square.Steps[0], {Kind: api.Curve, P: [3]api.Point{at(1, 2), at(300, 400), at(1000, 0)}}, {Kind: api.Close}}}
	for i, c := range []struct {
		g    api.Glyph
		m    api.Matrix
		x, y int
		want api.Path
	}{
		{square, turned, 1, 2, poly(16, 32, 16, 96, 80, 96, 80, 32)}, {square, upright, 1, 2, poly(16, 32, 80, 32, 80, -32, 16, -32)}, {square, api.Matrix{A: 4 * one, D: -4 * one, E: 99, F: -99}, 0, 0, poly(0, 0, 64, 0, 64, -64, 0, -64)}, {square, api.Matrix{}, 5, 5, poly(80, 80, 80, 80, 80, 80, 80, 80)},
		// Scales below 1 are not upright: a matrix of 62 units maps 1000 glyph units to 0.
		{square, api.Matrix{A: 62, D: -62 * one}, 0, 0, poly(0, 0, 0, 0, 0, -992, 0, -992)}, {square, api.Matrix{A: 4 * one, D: 4 * one}, 0, 0, poly(0, 0, 64, 0, 64, 64, 0, 64)}, {stemmed, api.Matrix{A: 9*one + one/4, D: -9 * one}, 0, 0, poly(0, 0, 144, 0, 144, -149, 0, -149)},
		{curved, turned, 0, 0, api.Path{square.Steps[0], {Kind: api.Curve, P: [3]api.Point{at(0, 0), at(26, 19), at(0, 64)}}, {Kind: api.Close}}},
	} {
		if p, e := Path(c.g, c.m, c.x, c.y); !slices.Equal(p, c.want) || e != api.OK {
			t.Error(i, p, e)
		}
	}
	far := api.Glyph{Steps: poly(32000, 0, 0, 0)}
	for i, c := range []struct {
		g    api.Glyph
		m    api.Matrix
		x, y int
		e    api.Errno
	}{
		{square, api.Matrix{A: 1<<24 + 1}, 601, 0, api.ErrMatrix}, {square, turned, 601, 0, api.ErrArg}, {square, turned, 0, -601, api.ErrArg}, {square, upright, 1 << 60, 0, api.ErrArg}, {far, api.Matrix{A: 16 * one, D: -16 * one}, 1, 0, api.LimitCheck}, {far, api.Matrix{A: 1 << 24, D: -1 << 24}, 0, 0, api.LimitCheck}, {far, api.Matrix{A: 1 << 24, D: 1 << 24}, 0, 0, api.LimitCheck},
	} {
		if p, e := Path(c.g, c.m, c.x, c.y); p != nil || e != c.e {
			t.Error(i, e)
		}
	}
	if p, e := Path(far, api.Matrix{A: 16 * one, D: 16 * one}, 0, 0); e != api.OK || p[0].P[0].X != 8192 {
		t.Error(p, e)
	}
}

// P36.3
func TestDrawAndCovers(t *testing.T) {
	k, e := Draw(square, turned)
	if k != (api.Mask{W: 5, H: 5, Bits: strings.Repeat("####.", 4) + "....."}) || e != api.OK {
		t.Error(k, e)
	}
	k, e = Draw(square, upright)
	if k != (api.Mask{Y: -4, W: 5, H: 5, Bits: strings.Repeat("####.", 4) + "....."}) || e != api.OK {
		t.Error(k, e)
	}
	if k, e := Draw(api.Glyph{Stems: []api.Stem{{Long: 1}}}, turned); k != (api.Mask{}) || e != api.OK {
		t.Error(k, e)
	}
	if k, e := Draw(api.Glyph{Steps: square.Steps[:1]}, turned); k != (api.Mask{W: 1, H: 1, Bits: "."}) || e != api.OK {
		t.Error(k, e)
	}
	wide := api.Glyph{Steps: poly(0, 0, 32000, 0)}
	bow := api.Glyph{Steps: api.Path{square.Steps[0]}}
	for range 40 {
		bow.Steps = append(bow.Steps, api.Step{Kind: api.Curve, P: [3]api.Point{at(0, 16000), at(9000, -9000), at(0, 0)}})
	}
	for i, c := range []struct {
		g api.Glyph
		m api.Matrix
		e api.Errno
	}{{wide, api.Matrix{A: 8 * one, D: 8 * one}, api.LimitCheck}, {wide, api.Matrix{B: 8 * one, C: 8 * one}, api.LimitCheck}, {wide, api.Matrix{A: 1 << 30}, api.ErrMatrix}, {wide, api.Matrix{A: 99 * one, D: one}, api.LimitCheck}, {bow, api.Matrix{A: 8 * one, D: 8 * one}, api.LimitCheck}} {
		if k, e := Draw(c.g, c.m); k != (api.Mask{}) || e != c.e {
			t.Error(i, k.W, k.H, e)
		}
	}
	if k, e := Draw(api.Glyph{Steps: poly(0, 0, 31990, 0)}, api.Matrix{A: 8*one - 20, D: one}); k.W != 256 || e != api.OK {
		t.Error(k.W, e)
	}
	big := 1<<63 - 1
	m := api.Mask{X: 10, Y: 20, W: 3, H: 2, Bits: ".#.#."}
	for _, c := range []struct {
		k    api.Mask
		i, j int
		want bool
	}{
		{m, 11, 20, true}, {m, 10, 21, true}, {m, 10, 20, false}, {m, 12, 21, false}, {m, 13, 20, false}, {m, 9, 21, false}, {m, 11, 19, false}, {m, 11, 22, false}, {m, big, big, false}, {m, -big - 1, -big - 1, false}, {api.Mask{X: -big, Y: -big, W: big, H: big, Bits: "#"}, big, big, false},
		{api.Mask{X: -big, W: big, H: 2, Bits: "#"}, -big, 1, false}, {api.Mask{X: -big, Y: -big, W: big, H: big, Bits: "#"}, -big, -big, true}, {api.Mask{W: -1, H: 1, Bits: "#"}, 0, 0, false}, {api.Mask{W: 1, H: 0, Bits: "#"}, 0, 0, false}, {api.Mask{W: 1 << 62, H: 9, Bits: "####"}, 0, 4, false}, {api.Mask{}, 0, 0, false},
	} {
		if got := Covers(c.k, c.i, c.j); got != c.want {
			t.Error(c, got)
		}
	}
}

func sampleFont() api.Font {
	code, _ := outline.Build(square)
	return api.Font{Name: "F", Encoding: []api.Code{{Octet: 65, Name: "A"}, {Octet: 66, Name: "B"}}, Chars: []api.Char{{Name: ".notdef", Code: "\x8b\x8b\x0d\x0e"}, {Name: "A", Code: code}, {Name: "B", Code: "\x0e"}}}
}

// P36.4
func TestGet(t *testing.T) {
	f := sampleFont()
	text, _ := font.Print(f)
	want, _ := Draw(square, turned)
	k, c, e := Get(nil, f, 65, turned)
	if k != want || !slices.Equal(c, []api.Entry{{Font: text, Octet: 65, M: turned, Mask: want}}) || e != api.OK {
		t.Error(k, c, e)
	}
	again, c2, e := Get(c, f, 65, turned)
	if again != want || !slices.Equal(c2, c) || e != api.OK {
		t.Error(again, c2, e)
	}
	// What is in the cache counts, the first entry of several.
	odd := api.Entry{Font: text, Octet: 65, M: turned, Mask: api.Mask{W: 1}}
	if k, c, e := Get([]api.Entry{{}, odd, c[0]}, f, 65, turned); k != odd.Mask || len(c) != 3 || e != api.OK {
		t.Error(k, e)
	}
	for i, other := range []api.Entry{{Font: text + " ", Octet: 65, M: turned}, {Font: text, Octet: 64, M: turned}, {Font: text, Octet: 65, M: upright}} {
		if k, c, e := Get([]api.Entry{other}, f, 65, turned); k != want || len(c) != 2 || c[0] != other || e != api.OK {
			t.Error(i, k, e)
		}
	}
	full := make([]api.Entry, 16, 40)
	for i := range full {
		full[i].Octet = -i
	}
	k, c, e = Get(full, f, 65, turned)
	if k != want || len(c) != 16 || c[0].Octet != -1 || c[15].Mask != want || e != api.OK || full[:17][16] != (api.Entry{}) {
		t.Error(len(c), e)
	}
	for i, x := range []struct {
		c     []api.Entry
		f     api.Font
		octet int
		m     api.Matrix
		e     api.Errno
	}{{make([]api.Entry, 17), api.Font{}, 65, turned, api.ErrLong}, {nil, api.Font{}, 65, turned, api.ErrFont}, {nil, f, 256, turned, api.ErrArg}, {nil, f, 66, turned, api.InvalidFont}, {nil, f, 65, api.Matrix{A: 1 << 40}, api.ErrMatrix}, {nil, f, 65, api.Matrix{A: 1 << 24, D: 1 << 24}, api.LimitCheck}} {
		if k, c, e := Get(x.c, x.f, x.octet, x.m); k != (api.Mask{}) || c != nil || e != x.e {
			t.Error(i, e)
		}
	}
}

func random(r *rand.Rand) api.Glyph {
	var g api.Glyph
	for range r.Intn(10) {
		s := api.Step{Kind: 1 + r.Intn(4)}
		for i := range points(s) {
			s.P[i] = at(r.Intn(1200)-200, r.Intn(1200)-200)
		}
		if p, e := path.Add(g.Steps, s); e == api.OK {
			g.Steps = p
		}
	}
	for range r.Intn(5) {
		g.Stems = append(g.Stems, api.Stem{Vertical: r.Intn(2) == 0, At: r.Intn(900), Long: 1 + r.Intn(200)})
	}
	return g
}

// P36.5
func TestConsequences(t *testing.T) {
	r := rand.New(rand.NewSource(1))
	for range 500 {
		g := random(r)
		m := api.Matrix{A: r.Intn(20 * one), D: -r.Intn(20 * one)}
		if r.Intn(2) == 0 {
			m.B, m.C, m.D = r.Intn(9*one)-4*one, r.Intn(9*one), -m.D
		}
		p, e := Path(g, m, 0, 0)
		x, y := r.Intn(99)-50, r.Intn(99)-50
		q, e2 := Path(g, m, x, y)
		moved, e3 := path.Shift(p, 16*x, 16*y)
		if e != api.OK || e2 != api.OK || e3 != api.OK || !slices.Equal(q, moved) {
			t.Fatal(g, m, e, e2, e3)
		}
		k, e := Draw(g, m)
		if e != api.OK {
			t.Fatal(e)
		}
		q, _ = flat.Flatten(q, api.GlyphFlat)
		for range 40 {
			i, j := k.X-1+r.Intn(k.W+2), k.Y-1+r.Intn(k.H+2)
			in, _ := wind.Inside(q, false, at(16*(x+i)+8, 16*(y+j)+8))
			if Covers(k, i, j) != in {
				t.Error(g, m, i, j)
			}
		}
	}
	f := sampleFont()
	var c []api.Entry
	for range 200 {
		m := api.Matrix{A: (1 + r.Intn(5)) * one, D: -(1 + r.Intn(5)) * one}
		octet := 64 + r.Intn(2)
		k, next, e := Get(c, f, octet, m)
		g, _ := font.Glyph(f, octet)
		want, _ := Draw(g, m)
		if k != want || e != api.OK {
			t.Fatal(k, e)
		}
		c = next
	}
	// An aligned stem lies between pixels.
	g := api.Glyph{Steps: poly(100, 0, 230, 0, 230, 700, 100, 700), Stems: []api.Stem{{Vertical: true, At: 100, Long: 130}}}
	for size := 5; size < 40; size++ {
		p, _ := Path(g, api.Matrix{A: size * one, D: -size * one}, 0, 0)
		if p[0].P[0].X%16 != 0 || p[1].P[0].X%16 != 0 {
			t.Error(size, p)
		}
	}
	if !reflect.DeepEqual(square.Stems, []api.Stem(nil)) {
		t.Error("a glyph was changed")
	}
}
