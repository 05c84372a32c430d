package gstate

import (
	"math/rand"
	"reflect"
	"slices"
	"strings"
	"testing"

	"chase/api"
	"chase/raster"
	"chase/sketch"
)

func initial(t *testing.T) api.State {
	g, e := Initial(64, 64)
	if e != api.OK {
		t.Fatal(e)
	}
	return api.State{G: g, Out: "o", Seed: 3}
}

// run executes a program of operands and operators of this layer, up to an error.
func run(s api.State, program string) (api.State, api.Errno) {
	var operands []string
	for _, w := range strings.Fields(program) {
		if !slices.Contains(Ops(), w) {
			operands = append(operands, w)
			continue
		}
		s = sketch.Put(s, strings.Join(operands, " "))
		operands = nil
		next, e := Do(s, w)
		if e != api.OK {
			return next, e
		}
		s = next
	}
	return sketch.Put(s, strings.Join(operands, " ")), api.OK
}

func leaves(t *testing.T, program, want string) api.State {
	t.Helper()
	s, e := run(initial(t), program)
	if got := sketch.Show(s); e != api.OK || got != want {
		t.Errorf("%s: %s %d, want %s", program, got, e, want)
	}
	return s
}

func fails(t *testing.T, program, op string, code api.Errno) {
	t.Helper()
	s, e := run(initial(t), program)
	if e != api.OK {
		t.Fatal(program, e)
	}
	old := s
	old.Ops = slices.Clone(s.Ops)
	got, e := Do(s, op)
	if e != code || !reflect.DeepEqual(got, old) || !reflect.DeepEqual(s, old) {
		t.Errorf("%s, %s: %d, want %d", program, op, e, code)
	}
}

func at(x, y int) api.Point { return api.Point{X: x, Y: y} }

// P37.1
func TestInitial(t *testing.T) {
	g, e := Initial(3, 128)
	want := api.Graphics{CTM: api.Matrix{A: 65536, D: -65536, F: 128 * 65536}, Paint: api.Paint{Kind: api.PInk, Ink: api.Ink{0, 0, 0, 255}}, Pen: api.Pen{Width: 16, Limit: 10}, Flat: 8, W: 3, H: 128}
	if !reflect.DeepEqual(g, want) || e != api.OK {
		t.Error(g, e)
	}
	for _, c := range [][2]int{{0, 1}, {1, 0}, {129, 1}, {1, 129}, {-1, -1}} {
		if g, e := Initial(c[0], c[1]); !reflect.DeepEqual(g, api.Graphics{}) || e != api.ErrArg {
			t.Error(c, e)
		}
	}
	names := "gsave grestore grestoreall initgraphics setlinewidth setlinecap setlinejoin setmiterlimit setdash setflat setgray setrgbcolor setcmykcolor settile setaxial setradial translate scale rotate concat setmatrix currentmatrix initmatrix transform itransform newpath moveto rmoveto lineto rlineto curveto rcurveto closepath currentpoint pathbbox flattenpath reversepath clip eoclip initclip fill eofill stroke image erasepage copypage showpage"
	if got := strings.Join(Ops(), " "); got != names {
		t.Error(got)
	}
	fails(t, "1 2", "frob", api.Undefined)
	if len(operators()) != len(Ops()) {
		t.Error("operators without names")
	}
}

// The operands of all operators: n a number, i an int, a an array, s a string.
func TestOperands(t *testing.T) {
	operands := map[string]string{
		"setlinewidth": "n", "setlinecap": "i", "setlinejoin": "i", "setmiterlimit": "n", "setdash": "an", "setflat": "n", "setgray": "n", "setrgbcolor": "nnn", "setcmykcolor": "nnnn", "settile": "ii", "setaxial": "nnnnaa", "setradial": "nnnnaa",
		"translate": "nn", "scale": "nn", "rotate": "n", "concat": "a", "setmatrix": "a", "transform": "nn", "itransform": "nn", "moveto": "nn", "rmoveto": "nn", "lineto": "nn", "rlineto": "nn", "curveto": "nnnnnn", "rcurveto": "nnnnnn", "image": "iiisa",
	}
	for op, kinds := range operands {
		good := map[rune]string{'n': "2.5", 'i': "1", 'a': "[1]", 's': "(a)"}
		bad := map[rune]string{'n': "(a)", 'i': "2.5", 'a': "(a)", 's': "[1]"}
		for i, k := range kinds {
			words := ""
			for j, l := range kinds {
				w := good[l]
				if i == j {
					w = bad[k]
				}
				words += w + " "
			}
			fails(t, words, op, api.TypeCheck)
		}
		fails(t, strings.Repeat("null ", len(kinds)-1), op, api.StackUnderflow)
		if strings.Trim(kinds, "n") == "" {
			for i := range kinds {
				words := strings.Fields(strings.Repeat("1 ", len(kinds)))
				words[i] = "32769"
				fails(t, strings.Join(words, " "), op, api.RangeCheck)
				words[i] = "-32769"
				fails(t, strings.Join(words, " "), op, api.RangeCheck)
			}
		}
	}
}

// P37.2
func TestStates(t *testing.T) {
	s := leaves(t, "gsave 9 setmiterlimit gsave 8 setmiterlimit grestore", "")
	if s.G.Pen.Limit != 9 || len(s.States) != 1 {
		t.Error(s.G.Pen, len(s.States))
	}
	s = leaves(t, "gsave 9 setmiterlimit grestore grestore grestore", "")
	if s.G.Pen.Limit != 10 || len(s.States) != 0 {
		t.Error(s.G.Pen, len(s.States))
	}
	s = leaves(t, "gsave 9 setmiterlimit gsave gsave 8 setmiterlimit grestoreall", "")
	if s.G.Pen.Limit != 10 || len(s.States) != 0 {
		t.Error(s.G.Pen, len(s.States))
	}
	leaves(t, "grestoreall", "")
	fails(t, strings.Repeat("gsave ", 20), "gsave", api.LimitCheck)
	// With a save, which has pushed the graphics state with the index 1
	s, _ = run(initial(t), "gsave 9 setmiterlimit gsave 8 setmiterlimit")
	s.Saves = []api.Snap{{N: 1, States: 1}}
	for _, program := range []string{"grestore", "grestore grestore", "grestoreall", "gsave 7 setmiterlimit gsave grestoreall", "gsave gsave 7 setmiterlimit grestore grestore grestore"} {
		x, e := run(s, program)
		if e != api.OK || x.G.Pen.Limit != 9 || len(x.States) != 2 {
			t.Error(program, x.G.Pen, len(x.States), e)
		}
	}
	if x, e := run(s, "gsave grestore"); e != api.OK || x.G.Pen.Limit != 8 || len(x.States) != 2 {
		t.Error(x.G.Pen, e)
	}
	s, e := run(initial(t), "[3] 0 setdash 5 setlinewidth 0.5 setgray 3 3 scale 1 1 moveto clip 4 setflat")
	s.G.Font, s.G.FontM = api.Obj{Kind: api.KDict}, api.Matrix{A: 5}
	want := initial(t).G
	want.Font, want.FontM, want.Flat = s.G.Font, s.G.FontM, 64
	s, e2 := Do(s, "initgraphics")
	if !reflect.DeepEqual(s.G, want) || e != api.OK || e2 != api.OK {
		t.Error(s.G, e, e2)
	}
}

func TestPens(t *testing.T) {
	for program, want := range map[string]api.Pen{
		"2 2 scale 3 setlinewidth": {Width: 96, Limit: 10}, "0 setlinewidth": {Width: 16, Limit: 10}, "1.5 setlinewidth 2 setlinecap 1 setlinejoin 100.9 setmiterlimit": {Width: 24, Cap: 2, Join: 1, Limit: 100}, "256 setlinewidth": {Width: 4096, Limit: 10}, "0 3 scale 9 setlinewidth": {Width: 16, Limit: 10},
		"[1 2.5 0.001] 3 setdash": {Width: 16, Limit: 10, Dash: []int{16, 40, 1}, Phase: 48}, "[1] 0 setdash [] 7 setdash": {Width: 16, Limit: 10, Phase: 112}, "2 8 scale [1] packed 1 setdash": {Width: 16, Limit: 10, Dash: []int{64}, Phase: 64}, "30 rotate 1 1 scale 2 setlinewidth": {Width: 31, Limit: 10},
	} {
		s := leaves(t, program, "")
		if !reflect.DeepEqual(s.G.Pen, want) {
			t.Error(program, s.G.Pen)
		}
	}
	for program, want := range map[string]int{"0 setflat": 1, "1 setflat": 16, "0.1 setflat": 1, "0.2 setflat": 3, "32768 setflat": 1600, "99.99 setflat": 1599} {
		if s := leaves(t, program, ""); s.G.Flat != want {
			t.Error(program, s.G.Flat)
		}
	}
	fails(t, "-1", "setlinewidth", api.RangeCheck)
	fails(t, "256.1", "setlinewidth", api.LimitCheck)
	fails(t, "3", "setlinecap", api.RangeCheck)
	fails(t, "-1", "setlinecap", api.RangeCheck)
	fails(t, "3", "setlinejoin", api.RangeCheck)
	fails(t, "101", "setmiterlimit", api.RangeCheck)
	fails(t, "0.99", "setmiterlimit", api.RangeCheck)
	fails(t, "-5", "setmiterlimit", api.RangeCheck)
	fails(t, "-0.01", "setflat", api.RangeCheck)
	fails(t, "[1 1 1 1 1 1 1 1 1 1 1] -1", "setdash", api.RangeCheck)
	fails(t, "[1 (x)] -1", "setdash", api.TypeCheck)
	fails(t, "[0 (x)] 1", "setdash", api.RangeCheck)
	fails(t, "[-1] 1", "setdash", api.RangeCheck)
	fails(t, "[32769] 1", "setdash", api.RangeCheck)
	fails(t, "[1] -1", "setdash", api.RangeCheck)
	fails(t, "[2049] 1", "setdash", api.LimitCheck)
	leaves(t, "2 2 scale [1] 32768 setdash", "")
	fails(t, "2.1 2.1 scale [1] 32768", "setdash", api.LimitCheck)
}

func TestColors(t *testing.T) {
	for program, want := range map[string]api.Ink{
		"0.5 setgray": {0, 0, 0, 127}, "-3 setgray": {0, 0, 0, 255}, "7 setgray": {}, "1 0 0 setrgbcolor": {0, 255, 255, 0}, "0 0 0.5 setrgbcolor": {128, 128, 0, 127}, "0 0.5 9 -9 setcmykcolor": {0, 128, 255, 0},
	} {
		if s := leaves(t, program, ""); !reflect.DeepEqual(s.G.Paint, api.Paint{Kind: api.PInk, Ink: want}) {
			t.Error(program, s.G.Paint)
		}
	}
	s := leaves(t, "0.5 setgray 3 -2 moveto 5 -2 lineto 5 0 lineto 8 9 settile", "")
	tile := s.G.Paint
	if tile.Kind != api.PTile || tile.W != 8 || tile.H != 9 || tile.X != 3 || tile.Y != 64 || len(tile.Cell) != 1 || tile.Cell[0].Kind != api.MFill || tile.Cell[0].Path[0].P[0] != at(0, 32) || tile.Cell[0].Paint.Ink != (api.Ink{0, 0, 0, 127}) || len(s.G.Path) != 0 {
		t.Error(tile)
	}
	fails(t, "0 0 moveto 65 1", "settile", api.RangeCheck)
	fails(t, "0 0 moveto 1 0", "settile", api.RangeCheck)
	fails(t, "1 1", "settile", api.NoCurrentPoint)
	fails(t, "0 0 moveto 1 1 settile 1 1", "settile", api.InvalidAccess)
	s = leaves(t, "1 2 3 4 [0 0 0 0] [1 0.5 9 -1] packed setaxial", "")
	if !reflect.DeepEqual(s.G.Paint, api.Paint{Kind: api.PShade, Shade: api.Shade{Kind: api.ShadeAxial, From: at(16, 992), To: at(48, 960), Ink1: api.Ink{255, 128, 255, 0}, Ext0: true, Ext1: true}}) {
		t.Error(s.G.Paint)
	}
	s = leaves(t, "2 2 scale 1 2 3 4 [0 0 0 0] [0 0 0 1] setradial", "")
	if !reflect.DeepEqual(s.G.Paint, api.Paint{Kind: api.PShade, Shade: api.Shade{Kind: api.ShadeRadial, From: at(32, 960), R0: 96, R1: 128, Ink1: api.Ink{0, 0, 0, 255}, Ext0: true, Ext1: true}}) {
		t.Error(s.G.Paint)
	}
	inks := "[0 0 0 0] [0 0 0 1]"
	for program, want := range map[string]api.Errno{
		"1 2 1 2 " + inks: api.LimitCheck, "1 2 900 2 " + inks: api.LimitCheck, "900 2 1 2 [0 0 0] [0 0 0 0]": api.RangeCheck, "1 2 1 3 [0 0 0 (x)] [0]": api.TypeCheck, "1 2 1 3 [0 0 0 0] [0 0 0 32769]": api.RangeCheck, "32769 2 1 3 [0 0 0 (x)] [0]": api.RangeCheck,
	} {
		fails(t, program, "setaxial", want)
	}
	for program, want := range map[string]api.Errno{
		"1 2 3 3 " + inks: api.LimitCheck, "1 2 -1 3 [] []": api.RangeCheck, "1 2 1 -1 [(x) 0 0 0] []": api.RangeCheck, "1 2 1 3 [(x) 0 0 0] []": api.TypeCheck, "900 2 1 3 " + inks: api.LimitCheck, "1 2 1 5000 " + inks: api.LimitCheck,
	} {
		fails(t, program, "setradial", want)
	}
}

func TestMatrices(t *testing.T) {
	leaves(t, "currentmatrix", "[1.0 0.0 0.0 -1.0 0.0 64.0]")
	leaves(t, "3 4 translate currentmatrix", "[1.0 0.0 0.0 -1.0 3.0 60.0]")
	leaves(t, "3 4 scale currentmatrix", "[3.0 0.0 0.0 -4.0 0.0 64.0]")
	leaves(t, "90 rotate currentmatrix", "[0.0 -1.0 -1.0 0.0 0.0 64.0]")
	leaves(t, "[1 2 3 4 5 6] concat currentmatrix", "[1.0 -2.0 3.0 -4.0 5.0 58.0]")
	leaves(t, "[1 2 3 4 5 6.5] packed setmatrix currentmatrix", "[1.0 2.0 3.0 4.0 5.0 6.5]")
	leaves(t, "[1 2 3 4 5 6] setmatrix initmatrix currentmatrix", "[1.0 0.0 0.0 -1.0 0.0 64.0]")
	leaves(t, "1 2 transform", "1.0 62.0")
	leaves(t, "1 62 itransform", "1.0 2.0")
	leaves(t, "0.03 0.04 transform", "0.0 63.9375")
	leaves(t, "0.03125 0.03124 itransform", "0.0625 64.0")
	for _, op := range []string{"concat", "setmatrix"} {
		fails(t, "[1 2 3 4 5]", op, api.RangeCheck)
		fails(t, "[1 2 3 4 5 (x)]", op, api.TypeCheck)
		fails(t, "[1 2 3 4 5 32769]", op, api.RangeCheck)
		fails(t, "[257 2 3 4 5 6]", op, api.RangeCheck)
		fails(t, "[1 2 3 4 8193 6]", op, api.RangeCheck)
	}
	fails(t, "[256 0 0 256 0 0] concat [256 0 0 256 0 0]", "concat", api.LimitCheck)
	fails(t, "257 1", "scale", api.LimitCheck)
	fails(t, "8193 0", "translate", api.LimitCheck)
	fails(t, "[256 256 -256 256 0 0] setmatrix 45", "rotate", api.LimitCheck)
	fails(t, "1000 0", "transform", api.LimitCheck)
	fails(t, "513 0", "itransform", api.LimitCheck)
	fails(t, "[0 0 0 0 0 0] setmatrix 513 0", "itransform", api.UndefinedResult)
	fails(t, "[0.00002 0 0 0.00002 0 0] setmatrix 512 0", "itransform", api.LimitCheck)
	fails(t, strings.Repeat("1 ", 100), "currentmatrix", api.StackOverflow)
	s := initial(t)
	s.Heap = []api.Cell{{Kind: api.CFile, Bytes: strings.Repeat("x", 19993)}}
	if got, e := Do(s, "currentmatrix"); e != api.VMError || len(got.Heap) != 1 {
		t.Error(e)
	}
	s.Ops = make([]api.Obj, 100)
	if _, e := Do(s, "currentmatrix"); e != api.StackOverflow {
		t.Error(e)
	}
}

func TestPaths(t *testing.T) {
	leaves(t, "10 20 moveto currentpoint", "10.0 20.0")
	leaves(t, "10 20 moveto 5 0 rlineto pathbbox", "10.0 44.0 15.0 44.0")
	leaves(t, "10 20 moveto 1 1 rmoveto currentpoint", "11.0 21.0")
	leaves(t, "0 0 moveto 1 2 3 4 5 6 curveto currentpoint pathbbox", "5.0 6.0 0.0 58.0 5.0 64.0")
	leaves(t, "1 1 moveto 1 2 3 4 5 6 rcurveto currentpoint pathbbox", "6.0 7.0 1.0 57.0 6.0 63.0")
	leaves(t, "1 1 moveto 5 5 lineto closepath currentpoint closepath newpath closepath", "1.0 1.0")
	s := leaves(t, "0 0 moveto 1 2 3 4 5 6 curveto closepath reversepath", "")
	if len(s.G.Path) != 3 || s.G.Path[0].P[0] != at(80, 928) || s.G.Path[1].Kind != api.Curve || s.G.Path[1].P[0] != at(48, 960) {
		t.Error(s.G.Path)
	}
	s = leaves(t, "0 0 moveto 0 20 20 40 40 40 curveto flattenpath 2 2 lineto", "")
	flat := true
	for _, x := range s.G.Path {
		flat = flat && x.Kind != api.Curve
	}
	if !flat || len(s.G.Path) < 4 {
		t.Error(s.G.Path)
	}
	leaves(t, "flattenpath reversepath closepath fill eofill stroke", "")
	for _, op := range []string{"lineto", "rlineto", "rmoveto"} {
		fails(t, "900 2", op, api.NoCurrentPoint)
		fails(t, "0 0 moveto 900 2", op, api.LimitCheck)
	}
	for _, op := range []string{"curveto", "rcurveto"} {
		fails(t, "1 2 3 4 900 6", op, api.NoCurrentPoint)
		for _, l := range []string{"900 2 3 4 5 6", "1 2 3 -900 5 6", "1 2 3 4 5 900"} {
			fails(t, "0 0 moveto "+l, op, api.LimitCheck)
		}
	}
	fails(t, "900 2", "moveto", api.LimitCheck)
	fails(t, "400 2 moveto 400 0", "rlineto", api.LimitCheck)
	fails(t, "", "currentpoint", api.NoCurrentPoint)
	fails(t, "", "pathbbox", api.NoCurrentPoint)
	fails(t, "0 0 moveto [0 0 0 0 0 0] setmatrix", "currentpoint", api.UndefinedResult)
	fails(t, "0 0 moveto "+strings.Repeat("1 ", 99), "currentpoint", api.StackOverflow)
	fails(t, "0 0 moveto "+strings.Repeat("1 ", 97), "pathbbox", api.StackOverflow)
	full := "0 0 moveto " + strings.Repeat("1 1 lineto ", 299)
	for _, l := range [][2]string{{"1 1", "lineto"}, {"1 1", "rlineto"}, {"", "closepath"}, {"1 1", "moveto"}} {
		fails(t, full+l[0], l[1], api.LimitCheck)
	}
	long := "-500 -430 moveto " + strings.Repeat("500 500 -500 -430 500 500 curveto 500 -430 -500 500 -500 -430 curveto ", 9) + "0.1 setflat "
	for _, op := range []string{"flattenpath", "clip", "eoclip", "fill", "eofill", "stroke"} {
		fails(t, long, op, api.LimitCheck)
	}
}

func TestPainting(t *testing.T) {
	s := leaves(t, "0 0 moveto 16 0 lineto 16 16 lineto fill", "")
	want := api.Mark{Kind: api.MFill, Path: api.Path{{Kind: api.Move, P: [3]api.Point{at(0, 1024)}}, {Kind: api.Line, P: [3]api.Point{at(256, 1024)}}, {Kind: api.Line, P: [3]api.Point{at(256, 768)}}}, Paint: s.G.Paint}
	if !reflect.DeepEqual(s.Marks, []api.Mark{want}) || len(s.G.Path) != 0 {
		t.Error(s.Marks)
	}
	s = leaves(t, "0 0 moveto 16 0 lineto 16 16 lineto gsave eofill grestore [2] 0 setdash stroke erasepage", "")
	want.Even = true
	stroke := api.Mark{Kind: api.MStroke, Path: want.Path, Pen: api.Pen{Width: 16, Limit: 10, Dash: []int{32}}, Paint: s.G.Paint}
	if !reflect.DeepEqual(s.Marks, []api.Mark{want, stroke, {Kind: api.MErase}}) {
		t.Error(s.Marks)
	}
	s = leaves(t, "0 0 moveto 16 0 lineto clip eoclip 16 16 lineto fill erasepage", "")
	if len(s.Marks) != 2 || len(s.Marks[0].Clips) != 2 || s.Marks[0].Clips[0].Even || !s.Marks[0].Clips[1].Even || len(s.Marks[0].Clips[0].Path) != 2 || len(s.Marks[1].Clips) != 0 || len(s.G.Clips) != 2 {
		t.Error(s.Marks)
	}
	if s = leaves(t, "clip initclip", ""); len(s.G.Clips) != 0 {
		t.Error(s.G.Clips)
	}
	fails(t, strings.Repeat("clip ", 7), "clip", api.LimitCheck)
	fails(t, strings.Repeat("clip ", 7), "eoclip", api.LimitCheck)
	fails(t, strings.Repeat("erasepage ", 200), "erasepage", api.LimitCheck)
	fails(t, strings.Repeat("erasepage ", 200)+"0 0 moveto", "fill", api.LimitCheck)
	fails(t, "[0.001] 0 setdash 0 0 moveto 500 0 lineto", "stroke", api.LimitCheck)
	s = leaves(t, "2 1 1 (ab) [3 0 0 3 1 1] image", "")
	picture := api.Picture{W: 2, H: 1, N: 1, Data: "ab", M: api.Matrix{A: 3 * api.One, D: -3 * api.One, E: api.One, F: 63 * api.One}}
	if !reflect.DeepEqual(s.Marks, []api.Mark{{Kind: api.MPicture, Picture: picture}}) {
		t.Error(s.Marks)
	}
	m := "[1 0 0 1 0 0]"
	for program, want := range map[string]api.Errno{
		"0 1 1 () " + m: api.RangeCheck, "65 1 1 () " + m: api.RangeCheck, "1 0 1 () " + m: api.RangeCheck, "1 65 1 () " + m: api.RangeCheck, "1 1 2 (ab) " + m: api.RangeCheck, "1 1 0 () " + m: api.RangeCheck, "1 1 1 (ab) " + m: api.RangeCheck, "1 1 3 (ab) " + m: api.RangeCheck, "1 1 1 (a) [1]": api.RangeCheck, "1 1 1 (a) [1 0 0 1 0 (x)]": api.TypeCheck, "1 1 1 (ab) [1 0 0 1 0 (x)]": api.RangeCheck,
	} {
		fails(t, program, "image", want)
	}
	fails(t, "2 2 scale 1 1 1 (a) [256 0 0 1 0 0]", "image", api.LimitCheck)
	fails(t, strings.Repeat("erasepage ", 200)+"1 1 1 (a) "+m, "image", api.LimitCheck)
}

func TestPages(t *testing.T) {
	s := leaves(t, "showpage", "")
	if !reflect.DeepEqual(s.Pages, []api.Page{{W: 64, H: 64}}) {
		t.Error(s.Pages)
	}
	s = leaves(t, "erasepage 5 setlinewidth copypage erasepage showpage copypage", "")
	if len(s.Pages) != 3 || len(s.Pages[0].Marks) != 1 || len(s.Pages[1].Marks) != 2 || len(s.Pages[2].Marks) != 0 || len(s.Marks) != 0 || s.G.Pen.Width != 16 {
		t.Error(s.Pages)
	}
	fails(t, strings.Repeat("showpage ", 20), "showpage", api.LimitCheck)
	fails(t, strings.Repeat("copypage ", 20), "copypage", api.LimitCheck)
}

// P37.3
func TestConsequences(t *testing.T) {
	s, _ := run(initial(t), "3 3 moveto 2 setlinewidth 1 2 translate clip gsave")
	old := s.States[0]
	s, e := run(s, "9 9 lineto 5 setlinewidth [1] 0 setdash 0.3 setgray 4 4 scale clip fill showpage gsave grestore grestore")
	if e != api.OK || !reflect.DeepEqual(s.G, old) {
		t.Error("the graphics state", e)
	}
	a, _ := run(initial(t), "1 1 moveto 2 2 scale 3 3 lineto")
	if a.G.Path[0].P[0] != at(16, 1008) || a.G.Path[1].P[0] != at(96, 928) {
		t.Error(a.G.Path)
	}
	r := rand.New(rand.NewSource(1))
	numbers := []string{"0", "1", "-2.5", "7", "20", "1.5", "63", "300", "-1"}
	for range 400 {
		s := initial(t)
		for range 40 {
			op := Ops()[r.Intn(len(Ops()))]
			var words []string
			for range 6 {
				words = append(words, numbers[r.Intn(len(numbers))])
			}
			if r.Intn(3) == 0 {
				words = append(words, []string{"[1 2 3 4]", "[1 0 0 1 0 0]", "[2]", "[]"}[r.Intn(4)], "[0 0 0 1]")
			}
			before := len(s.Marks)
			s.Ops = nil
			s = sketch.Put(s, strings.Join(words, " "))
			s, _ = Do(s, op)
			if len(s.Marks) < before && op != "showpage" || len(s.Marks) > before && !slices.Contains([]string{"fill", "eofill", "stroke", "image", "erasepage"}, op) {
				t.Error(op, before, len(s.Marks))
			}
		}
		for _, p := range append(s.Pages, api.Page{W: 1, H: 1, Marks: s.Marks}) {
			if e := raster.CheckPage(p); e != api.OK {
				t.Error(e)
			}
		}
	}
	// R1: states that are not valid
	odd := []api.Obj{{Kind: api.KInt, N: 1 << 62}, {Kind: 99}, {Kind: api.KArray, Len: 9}, {Kind: api.KArray, Ref: -3}, {Kind: api.KString, Len: 3}, {Kind: api.KReal, N: -1 << 63}}
	for _, op := range Ops() {
		for _, o := range odd {
			for _, g := range []api.Graphics{{}, {CTM: api.Matrix{A: 1 << 60, B: -1 << 60}, Path: make(api.Path, 400), Pen: api.Pen{Width: -5}, Clips: make([]api.Clip, 9), W: -1}} {
				s := api.State{G: g, Ops: slices.Repeat([]api.Obj{o}, 6), Saves: []api.Snap{{States: -9}}}
				if got, e := Do(s, op); e != api.OK && !reflect.DeepEqual(got, s) {
					t.Error(op, o)
				}
			}
		}
	}
}
