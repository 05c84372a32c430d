package text

import (
	"math/rand"
	"reflect"
	"slices"
	"strings"
	"testing"

	"chase/api"
	"chase/flat"
	"chase/font"
	"chase/glyph"
	"chase/gstate"
	"chase/path"
	"chase/sketch"
)

// program is a font: A is a box with the width 100, C a curve with the width 500, Z cannot be drawn, W is too far away, and all others are empty.
func program() api.Font {
	box := "\x8b\xef\x0d\x8b\x8b\x15\xf8\x88\x06\xf9\x50\x07\xfc\x88\x06\x09\x0e"
	curve := "\x8b\xf8\x88\x0d\x8b\x8b\x15\x8b\xf8\x88\xf8\x88\x8b\x8b\x8b\x08\x09\x0e"
	far := "\x8b\x8b\x0d\xff\x00\x00\x7d\x00\x16\x0e"
	return api.Font{Name: "F", Encoding: []api.Code{{Octet: 65, Name: "A"}, {Octet: 67, Name: "C"}, {Octet: 87, Name: "W"}, {Octet: 90, Name: "Z"}}, Chars: []api.Char{{Name: ".notdef", Code: "\x8b\x8b\x0d\x0e"}, {Name: "A", Code: box}, {Name: "C", Code: curve}, {Name: "W", Code: far}, {Name: "Z", Code: "\x0e"}}}
}

// base has the font as the value of FontProgram in the dictionary in cell 11, and an empty dictionary in cell 12.
func base(t *testing.T) api.State {
	t.Helper()
	text, e := font.Print(program())
	g, e2 := gstate.Initial(64, 64)
	if e != api.OK || e2 != api.OK {
		t.Fatal(e, e2)
	}
	s := api.State{G: g, Out: "o"}
	for range api.FirstRefs {
		s.Heap = append(s.Heap, api.Cell{Kind: api.CDict, Max: 2})
	}
	s.Heap = append(s.Heap, api.Cell{Kind: api.CString, Bytes: text}, api.Cell{Kind: api.CDict, Max: 1, Keys: []api.Obj{name(keyProgram)}, Vals: []api.Obj{{Kind: api.KString, Ref: 10, Len: len(text)}}}, api.Cell{Kind: api.CDict})
	return s
}

func dict(ref int) api.Obj { return api.Obj{Kind: api.KDict, Ref: ref} }

// run executes a program of operands and operators of this layer and of graphics; F and E are the font and the empty dictionary.
func run(s api.State, words string) (api.State, api.Errno) {
	for _, w := range strings.Fields(words) {
		e := api.OK
		switch {
		case w == "F":
			s.Ops = append(slices.Clip(s.Ops), dict(11))
		case w == "E":
			s.Ops = append(slices.Clip(s.Ops), dict(12))
		case slices.Contains(Ops(), w):
			s, e = Do(s, w)
		case slices.Contains(gstate.Ops(), w):
			s, e = gstate.Do(s, w)
		default:
			s = sketch.Put(s, strings.ReplaceAll(w, "_", " "))
		}
		if e != api.OK {
			return s, e
		}
	}
	return s, api.OK
}

func leaves(t *testing.T, words, want string) api.State {
	t.Helper()
	s, e := run(base(t), words)
	if got := sketch.Show(s); e != api.OK || got != want {
		t.Errorf("%s: %s %d, want %s", words, got, e, want)
	}
	return s
}

func fails(t *testing.T, words, op string, code api.Errno) {
	t.Helper()
	s, e := run(base(t), words)
	if e != api.OK {
		t.Fatal(words, e)
	}
	got, e := Do(s, op)
	if e != code || !reflect.DeepEqual(got, s) {
		t.Errorf("%s, %s: %d, want %d", words, op, e, code)
	}
}

// P38.1
func TestFont(t *testing.T) {
	s := base(t)
	want := program()
	f, m, e := Font(s, dict(11))
	f.Subrs = nil
	if !reflect.DeepEqual(f, want) || m != (api.Matrix{A: api.One, D: api.One}) || e != api.OK {
		t.Error(f, m, e)
	}
	if got := strings.Join(Ops(), " "); got != "definefont findfont scalefont makefont setfont currentfont show ashow stringwidth charpath" {
		t.Error(got)
	}
	withMatrix := func(text string) api.State {
		x := sketch.Put(base(t), text)
		x.Heap = slices.Clone(x.Heap)
		x.Heap[11].Max, x.Heap[11].Keys, x.Heap[11].Vals = 2, append(x.Heap[11].Keys, name(keyMatrix)), append(x.Heap[11].Vals, x.Ops[0])
		return x
	}
	_, m, e = Font(withMatrix("[1 0.5 0 2 3 4] packed"), dict(11))
	if m != (api.Matrix{A: 65536, B: 32768, D: 131072, E: 196608, F: 262144}) || e != api.OK {
		t.Error(m, e)
	}
	for _, text := range []string{"[1 2 3 4 5]", "[1 2 3 4 5 (x)]", "[257 2 3 4 5 6]", "[1 2 3 4 5 32769]", "(abcdef)", "null", "<<>>"} {
		if f, m, e := Font(withMatrix(text), dict(11)); !reflect.DeepEqual(f, api.Font{}) || m != (api.Matrix{}) || e != api.InvalidFont {
			t.Error(text, e)
		}
	}
	for o, want := range map[api.Obj]api.Errno{dict(12): api.InvalidFont, dict(99): api.InvalidFont, dict(10): api.InvalidFont, {}: api.TypeCheck, {Kind: api.KString, Ref: 10}: api.TypeCheck} {
		if f, m, e := Font(s, o); !reflect.DeepEqual(f, api.Font{}) || m != (api.Matrix{}) || e != want {
			t.Error(o, e)
		}
	}
	s.Heap = slices.Clone(s.Heap)
	s.Heap[11].Vals = []api.Obj{{Kind: api.KString, Ref: 10, Len: 20}}
	if _, _, e := Font(s, dict(11)); e != api.InvalidFont {
		t.Error(e)
	}
}

// P38.2
func TestSet(t *testing.T) {
	s, e := run(base(t), "F 20 scalefont setfont")
	if e != api.OK {
		t.Fatal(e)
	}
	p, a := api.Point{X: 100, Y: 200}, api.Point{X: 3, Y: -5}
	paths, end, e := Set(s, "AxC", p, a)
	if e != api.OK || len(paths) != 3 || end != (api.Point{X: 100 + 32 + 160 + 9, Y: 200 - 15}) || len(paths[1]) != 0 {
		t.Error(paths, end, e)
	}
	m := api.Matrix{A: 20 * api.One, D: -20 * api.One, F: 64 * api.One}
	g, _ := font.Glyph(program(), 'C')
	if want, _ := glyph.Path(g, m, (100+38+8)>>4, (200-10+8)>>4); !slices.Equal(paths[2], want) {
		t.Error(paths[2], want)
	}
	if paths, end, e := Set(s, "", p, a); len(paths) != 0 || end != p || e != api.OK {
		t.Error(paths, end, e)
	}
	far := api.Point{X: 8193}
	for _, c := range []struct {
		s    api.State
		t    string
		p, a api.Point
		e    api.Errno
	}{
		{base(t), "A", far, a, api.InvalidFont}, {s, "Z", far, a, api.ErrArg}, {s, "Z", p, far, api.ErrArg}, {s, "AZ", p, a, api.InvalidFont}, {s, "A", api.Point{X: 8192}, a, api.LimitCheck}, {s, "AZ", api.Point{X: 8192}, a, api.InvalidFont}, {s, "W", p, a, api.LimitCheck}, {s, "WZ", p, a, api.InvalidFont}, {s, "xx", p, api.Point{Y: -8192}, api.LimitCheck},
	} {
		if paths, end, e := Set(c.s, c.t, c.p, c.a); paths != nil || end != (api.Point{}) || e != c.e {
			t.Error(c.t, c.p, c.a, e)
		}
	}
	big, e := run(s, "F 256 scalefont setfont 2 2 scale")
	if e != api.OK {
		t.Fatal(e)
	}
	if _, _, e := Set(big, "", p, a); e != api.LimitCheck {
		t.Error("the matrices of an empty string", e)
	}
}

// P38.3
func TestFonts(t *testing.T) {
	s, e := run(base(t), "/X F definefont")
	if e != api.OK || s.Ops[0] != dict(11) || s.Heap[5].Vals[0] != dict(11) || s.Heap[5].Keys[0] != name("X") {
		t.Error(s.Ops)
	}
	if s, e := run(base(t), "F setfont currentfont"); e != api.OK || s.Ops[0] != dict(11) || s.G.Font != dict(11) || s.G.FontM != (api.Matrix{A: api.One, D: api.One}) {
		t.Error(s.Ops, e)
	}
	leaves(t, "currentfont", "null")
	if s, e := run(base(t), "/X F definefont X findfont"); e != api.OK || !slices.Equal(s.Ops, []api.Obj{dict(11), dict(11)}) {
		t.Error(s.Ops, e)
	}
	fails(t, "/Y", "findfont", api.InvalidFont)
	fails(t, "(X)", "findfont", api.TypeCheck)
	fails(t, "(X) F", "definefont", api.TypeCheck)
	fails(t, "/X 1", "definefont", api.TypeCheck)
	fails(t, "/X E", "definefont", api.InvalidFont)
	fails(t, "/X F definefont /Y F definefont /Z F", "definefont", api.DictFull)
	fails(t, "E", "setfont", api.InvalidFont)
	fails(t, "1", "setfont", api.TypeCheck)
	fails(t, strings.Repeat("1 ", 100), "currentfont", api.StackOverflow)
	s, e = run(base(t), "F 20 scalefont [0.5_0_0_2_7_0] makefont")
	if e != api.OK || len(s.Heap) != 18 || s.Ops[0] != dict(17) || s.Heap[14].Max != 2 || s.Heap[14].Keys[0] != name(keyProgram) || s.Heap[14].Keys[1] != name(keyMatrix) || sketch.Text(s.Heap, s.Heap[14].Vals[1:]) != "[20.0 0.0 0.0 20.0 0.0 0.0]" || sketch.Text(s.Heap, s.Heap[17].Vals[1:]) != "[10.0 0.0 0.0 40.0 7.0 0.0]" || s.Heap[14].Vals[1].Ref != 13 {
		t.Error(s.Heap, e)
	}
	fails(t, "E 32769", "scalefont", api.InvalidFont)
	fails(t, "F 32769", "scalefont", api.RangeCheck)
	fails(t, "F 257", "scalefont", api.LimitCheck)
	fails(t, "F 20 scalefont 20", "scalefont", api.LimitCheck)
	fails(t, "1 20", "scalefont", api.TypeCheck)
	fails(t, "F (x)", "scalefont", api.TypeCheck)
	fails(t, "E [1]", "makefont", api.InvalidFont)
	fails(t, "F [1]", "makefont", api.RangeCheck)
	fails(t, "F [1_2_3_4_5_(x)]", "makefont", api.TypeCheck)
	fails(t, "F [257_2_3_4_5_6]", "makefont", api.RangeCheck)
	fails(t, "F 20 scalefont [20_0_0_1_0_0]", "makefont", api.LimitCheck)
	fails(t, "F 1", "makefont", api.TypeCheck)
	for op, n := range map[string]int{"definefont": 2, "findfont": 1, "scalefont": 2, "makefont": 2, "setfont": 1, "show": 1, "ashow": 3, "stringwidth": 1, "charpath": 1} {
		fails(t, strings.Repeat("null ", n-1), op, api.StackUnderflow)
		fails(t, strings.Repeat("null ", n), op, api.TypeCheck)
	}
	fails(t, "1", "frob", api.Undefined)
	for room := range 12 {
		s := base(t)
		s.Ops = []api.Obj{dict(11), {Kind: api.KInt, N: 1}}
		total := 0
		for _, c := range s.Heap {
			total += 1 + len(c.Bytes) + 2*c.Max
		}
		s.Heap = append(s.Heap, api.Cell{Kind: api.CFile, Bytes: strings.Repeat("x", 19999-total-room)})
		got, e := Do(s, "scalefont")
		if want := room >= 7+5; (e == api.OK) != want || e != api.OK && (e != api.VMError || !reflect.DeepEqual(got, s)) {
			t.Error(room, e)
		}
	}
}

func TestText(t *testing.T) {
	const use = "F 20 scalefont setfont "
	leaves(t, use+"(A) stringwidth", "2.0 0.0")
	leaves(t, use+"2 4 scale 5 5 translate (A) stringwidth", "2.0 0.0")
	leaves(t, use+"90 rotate (A) stringwidth", "2.0 0.0")
	s := leaves(t, use+"10 10 moveto (xx) show currentpoint", "10.0 10.0")
	if len(s.Marks) != 0 {
		t.Error(s.Marks)
	}
	s = leaves(t, use+"0.5 setgray 1 1 moveto clip 10 10 moveto 9 9 lineto (AxA) show currentpoint", "13.0 9.0")
	g, _ := font.Glyph(program(), 'A')
	m := api.Matrix{A: 20 * api.One, D: -20 * api.One}
	first, _ := glyph.Path(g, m, 9, 55)
	if len(s.Marks) != 2 || s.Marks[0].Kind != api.MFill || s.Marks[0].Even || !slices.Equal(s.Marks[0].Path, first) || s.Marks[0].Paint.Ink != (api.Ink{0, 0, 0, 127}) || len(s.Marks[0].Clips) != 1 || len(s.G.Path) != 1 {
		t.Error(s.Marks, s.G.Path)
	}
	s = leaves(t, use+"10 10 moveto (AxA) show currentpoint", "14.0 10.0")
	first, _ = glyph.Path(g, m, 10, 54)
	second, _ := glyph.Path(g, m, 12, 54)
	if len(s.Marks) != 2 || !slices.Equal(s.Marks[0].Path, first) || !slices.Equal(s.Marks[1].Path, second) || !slices.Equal(s.G.Path, api.Path{{Kind: api.Move, P: [3]api.Point{{X: 224, Y: 864}}}}) {
		t.Error(s.Marks, s.G.Path)
	}
	leaves(t, use+"10 10 moveto 1 -0.5 (AxA) ashow currentpoint", "17.0 8.5")
	s = leaves(t, use+"10 10 moveto (C) show", "")
	curve, _ := font.Glyph(program(), 'C')
	drawn, _ := glyph.Path(curve, m, 10, 54)
	if want, _ := flat.Flatten(drawn, api.GlyphFlat); len(s.Marks) != 1 || !slices.Equal(s.Marks[0].Path, want) {
		t.Error(s.Marks)
	}
	s = leaves(t, use+"1 1 moveto 2 2 lineto 10 10 moveto (xC) charpath currentpoint", "20.0 10.0")
	if len(s.Marks) != 0 || len(s.G.Path) != 2+len(drawn)+1 || !slices.Equal(s.G.Path[2:len(s.G.Path)-1], drawn) {
		t.Error(s.G.Path)
	}
	leaves(t, use+"10 10 moveto () show currentpoint () stringwidth () charpath currentpoint", "10.0 10.0 0.0 0.0 10.0 10.0")
}

func TestTextErrors(t *testing.T) {
	const use = "F 20 scalefont setfont "
	for _, op := range []string{"show", "charpath"} {
		fails(t, "10 10 moveto (A)", op, api.InvalidFont)
		fails(t, "(Z)", op, api.InvalidFont)
		fails(t, use+"(Z)", op, api.NoCurrentPoint)
		fails(t, use+"10 10 moveto (WZ)", op, api.InvalidFont)
		fails(t, use+"10 10 moveto (W)", op, api.LimitCheck)
		fails(t, use+"511 10 moveto (A)", op, api.LimitCheck)
	}
	fails(t, "32769 1 (A)", "ashow", api.RangeCheck)
	fails(t, "1 -32769 (A)", "ashow", api.RangeCheck)
	fails(t, "900 1 (A)", "ashow", api.InvalidFont)
	fails(t, use+"900 1 (A)", "ashow", api.NoCurrentPoint)
	fails(t, use+"1 1 moveto 900 1 (Z)", "ashow", api.InvalidFont)
	fails(t, use+"1 1 moveto 900 1 (A)", "ashow", api.LimitCheck)
	fails(t, use+"1 1 moveto 500 1 (AA)", "ashow", api.LimitCheck)
	fails(t, "(A)", "stringwidth", api.InvalidFont)
	flatten := "[0_0_0_0_0_0] setmatrix "
	fails(t, use+flatten+"(WZ)", "stringwidth", api.InvalidFont)
	fails(t, use+flatten+"(W)", "stringwidth", api.UndefinedResult)
	fails(t, use+"(W)", "stringwidth", api.LimitCheck)
	fails(t, use+strings.Repeat("1 ", 99)+"(A)", "stringwidth", api.StackOverflow)
	fails(t, use+strings.Repeat("erasepage ", 200)+"1 1 moveto (A)", "show", api.LimitCheck)
	s, _ := run(base(t), use+strings.Repeat("erasepage ", 200)+"1 1 moveto (x)")
	if _, e := Do(s, "show"); e != api.OK {
		t.Error("an empty path is not marked", e)
	}
	full := use + "1 1 moveto " + strings.Repeat("2 2 lineto ", 297)
	fails(t, full+"(A)", "charpath", api.LimitCheck)
	fails(t, full+"1 1 lineto 1 1 lineto (x)", "charpath", api.LimitCheck)
	s, _ = run(base(t), "E setmatrix")
	s.Ops, s.G.Font = nil, api.Obj{Kind: api.KDict, Ref: 12}
	s = sketch.Put(s, "(A)")
	if _, e := Do(s, "show"); e != api.InvalidFont {
		t.Error(e)
	}
}

// P38.4
func TestConsequences(t *testing.T) {
	r := rand.New(rand.NewSource(1))
	for range 200 {
		words := "F " + []string{"5", "12.5", "20", "33"}[r.Intn(4)] + " scalefont setfont "
		if r.Intn(3) == 0 {
			words += []string{"30 rotate ", "2 0.5 scale ", "[1_0.3_0.2_1_5_9] concat "}[r.Intn(3)]
		}
		text := ""
		for range 2 + r.Intn(5) {
			text += string("ACx"[r.Intn(3)])
		}
		k := 1 + r.Intn(len(text)-1)
		s, e := run(base(t), words+"20 20 moveto")
		if e != api.OK {
			t.Fatal(e)
		}
		joined, e := run(s, "("+text+") show")
		parts, e2 := run(s, "("+text[:k]+") show ("+text[k:]+") show")
		if e != api.OK || e2 != api.OK || !reflect.DeepEqual(joined.Marks, parts.Marks) || !reflect.DeepEqual(joined.G, parts.G) {
			t.Error(words, text, k, e, e2)
		}
		p, _ := path.Current(s.G.Path)
		q := api.Point{X: p.X + 16*7, Y: p.Y - 16*5}
		a, _, _ := Set(s, text, p, api.Point{})
		b, end, _ := Set(s, text, q, api.Point{})
		for i := range a {
			if moved, _ := path.Shift(a[i], 16*7, -16*5); !slices.Equal(moved, b[i]) {
				t.Error("moved by whole pixels", words, text)
			}
		}
		_, zero, _ := Set(s, text, api.Point{}, api.Point{})
		if zero != (api.Point{X: end.X - q.X, Y: end.Y - q.Y}) {
			t.Error("the width", words, text)
		}
	}
	// R1
	odd := []api.Obj{{Kind: api.KInt, N: 1 << 62}, {Kind: 99}, {Kind: api.KDict, Ref: -3}, {Kind: api.KString, Len: 3}, {Kind: api.KName, Name: "X"}, dict(0)}
	for _, op := range Ops() {
		for _, a := range odd {
			for _, b := range odd {
				s := api.State{G: api.Graphics{Font: a, FontM: api.Matrix{A: 1 << 62}, Path: make(api.Path, 3)}, Ops: []api.Obj{a, a, b}, Heap: []api.Cell{{Kind: api.CDict, Keys: []api.Obj{name(keyProgram)}, Vals: []api.Obj{b}}}}
				if got, e := Do(s, op); e != api.OK && !reflect.DeepEqual(got, s) {
					t.Error(op, a, b)
				}
				Set(s, "A", api.Point{}, api.Point{})
			}
		}
	}
}
