package job

import (
	"math/rand"
	"reflect"
	"slices"
	"strings"
	"testing"

	"chase/api"
	"chase/font"
	"chase/heap"
	"chase/machine"
	"chase/sketch"
)

// P42.1
func TestInitial(t *testing.T) {
	if font.Check(Standard()) != api.OK {
		t.Error("the standard font")
	}
	for octet, want := range map[int]int{65: 600, 66: 500} {
		if g, e := font.Glyph(Standard(), octet); g.Width != want || e != api.OK || octet == 65 && len(g.Steps) != 5 {
			t.Error(octet, g, e)
		}
	}
	s := Initial()
	if Check(s) != api.OK || len(s.Heap) != 34 || !reflect.DeepEqual(s.Dicts, []api.Obj{dict(0), dict(1)}) || s.Seed != 1 || s.G.W != 64 || s.G.H != 64 {
		t.Error(len(s.Heap), s.Dicts)
	}
	for i, room := range []int{200, 50, 30, 12, 5, 10, 10, 10, 10, 10} {
		if s.Heap[i].Max != room {
			t.Error(i, s.Heap[i].Max)
		}
	}
	names := append(machine.Names(), "systemdict", "userdict", "errordict", "$error")
	if len(s.Heap[0].Keys) != len(names) {
		t.Error(len(s.Heap[0].Keys))
	}
	for i, n := range names {
		want := api.Obj{Kind: api.KOperator, Exec: true, Name: n}
		if k := i - len(names) + 4; k >= 0 {
			want = dict(k)
		}
		if s.Heap[0].Keys[i] != name(n) || s.Heap[0].Vals[i] != want {
			t.Error(n, s.Heap[0].Vals[i])
		}
	}
	text, _ := font.Print(Standard())
	if got := sketch.Text(s.Heap, []api.Obj{dict(4)}); !strings.HasPrefix(got, "<</Font <</Std <</FontProgram (font Std\\012code 65 A\\012private ") || !strings.HasSuffix(got, "/Pattern <<>> 10 spare /Encoding <<>> 10 spare /Form <<>> 10 spare /Generic <<>> 10 spare>>") {
		t.Error(got)
	}
	if s.Heap[32].Bytes != text || s.Heap[33].Max != 1 || s.Heap[5].Vals[0] != dict(33) || len(s.Heap[2].Keys) != 22 || len(s.Heap[3].Keys) != 1 {
		t.Error("the cells at the end")
	}
	for m, want := range map[[2]int]string{{api.MDone, 24}: "done", {api.MQuit, 0}: "quit", {api.MRunning, 5}: "timeout", {api.MFailed, 0}: "stopped", {api.MFailed, 5}: "stopped", {api.MFailed, 27}: "failed VMerror", {api.MFailed, 42}: "failed timeout", {4, 0}: "", {-1, 27}: ""} {
		if got := Outcome(api.Machine{Status: m[0], Err: api.Errno(m[1])}); got != want {
			t.Error(m, got)
		}
	}
}

// rich is a valid state with something of everything.
func rich(t *testing.T) api.State {
	t.Helper()
	m, _, e := Run("(abc) [1] save 5 dict begin gsave 1 1 moveto 9 9 lineto clip fill /Std findfont setfont save erasepage showpage erasepage gsave 5 1 moveto (x) =", 4000)
	if e != api.OK || Outcome(m) != "done" || Check(m.State) != api.OK {
		t.Fatal(Outcome(m))
	}
	return m.State
}

// P42.2
func TestCheck(t *testing.T) {
	base := rich(t)
	str := api.Obj{Kind: api.KString, Ref: 99}
	cell := func(s *api.State, i int, f func(*api.Cell)) {
		s.Heap = slices.Clone(s.Heap)
		f(&s.Heap[i])
	}
	snap := func(s *api.State, i int, f func(*api.Snap)) {
		s.Saves = slices.Clone(s.Saves)
		f(&s.Saves[i])
	}
	for i, change := range []func(*api.State){
		func(s *api.State) { s.Heap = nil }, func(s *api.State) { s.Heap = s.Heap[:9] }, func(s *api.State) { cell(s, 9, func(c *api.Cell) { c.Kind, c.Max = api.CString, 0 }) }, func(s *api.State) { cell(s, 20, func(c *api.Cell) { c.At = 1 }) },
		func(s *api.State) { s.Ops = make([]api.Obj, 101) }, func(s *api.State) { s.Ops = []api.Obj{str} }, func(s *api.State) { s.Ops = []api.Obj{{Kind: api.KString}} }, func(s *api.State) { s.Ops = []api.Obj{{Kind: 99}} },
		func(s *api.State) { s.Dicts = s.Dicts[:1] }, func(s *api.State) { s.Dicts = nil }, func(s *api.State) { s.Dicts = append(s.Dicts, slices.Repeat(s.Dicts, 7)...) }, func(s *api.State) { s.Dicts = []api.Obj{dict(1), dict(0)} }, func(s *api.State) { s.Dicts = []api.Obj{dict(0), dict(2)} }, func(s *api.State) { s.Dicts = []api.Obj{dict(0), dict(1), {}} }, func(s *api.State) { s.Dicts = []api.Obj{dict(0), dict(1), dict(99)} }, func(s *api.State) { s.Dicts = []api.Obj{dict(0), dict(1), {Kind: api.KInt}} },
		func(s *api.State) { s.Saves = make([]api.Snap, 11) }, func(s *api.State) { s.Made = 1 }, func(s *api.State) { s.Saves, s.Made = nil, -1 }, func(s *api.State) { s.States = s.States[:2] }, func(s *api.State) { snap(s, 0, func(x *api.Snap) { x.N = 0 }) }, func(s *api.State) { snap(s, 1, func(x *api.Snap) { x.N = 1 }) }, func(s *api.State) { snap(s, 0, func(x *api.Snap) { x.States = -1 }) }, func(s *api.State) { snap(s, 1, func(x *api.Snap) { x.States = 0 }) }, func(s *api.State) { snap(s, 0, func(x *api.Snap) { x.Heap = x.Heap[:9] }) },
		func(s *api.State) {
			snap(s, 0, func(x *api.Snap) { x.Heap = append(slices.Clone(s.Heap), api.Cell{Kind: api.CString}) })
		}, func(s *api.State) {
			snap(s, 0, func(x *api.Snap) { x.Heap = slices.Clone(x.Heap); x.Heap[9].Max = 9 })
		}, func(s *api.State) {
			snap(s, 0, func(x *api.Snap) { x.Heap = slices.Clone(x.Heap); x.Heap[34].Bytes = "ab" })
		}, func(s *api.State) {
			snap(s, 0, func(x *api.Snap) { x.Heap = slices.Clone(x.Heap); x.Heap[35].Items = make([]api.Obj, 2) })
		}, func(s *api.State) {
			snap(s, 0, func(x *api.Snap) { x.Heap = slices.Clone(x.Heap); x.Heap[32].Kind = api.CFile })
		},
		func(s *api.State) {
			s.States = slices.Clone(s.States)
			s.States[0].Font = dict(len(s.Saves[0].Heap))
		}, func(s *api.State) { s.States = slices.Repeat(s.States, 9) }, func(s *api.State) {
			s.States = slices.Clone(s.States)
			s.States[1].Flat = 0
		},
		func(s *api.State) { s.G.W = 0 }, func(s *api.State) { s.G.H = 129 }, func(s *api.State) { s.G.CTM.A = 1 << 25 }, func(s *api.State) { s.G.FontM.F = 1 << 30 }, func(s *api.State) { s.G.Path = s.G.Path[:0:0]; s.G.Path = append(s.G.Path, api.Step{}) }, func(s *api.State) { s.G.Path = api.Path{{Kind: api.Move, P: [3]api.Point{{X: 8193}}}} }, func(s *api.State) { s.G.Path = api.Path{{Kind: api.Move, P: [3]api.Point{{Y: -8193}}}} }, func(s *api.State) { s.G.Paint.Kind = 0 }, func(s *api.State) { s.G.Pen.Width = 0 }, func(s *api.State) { s.G.Flat = 1601 },
		func(s *api.State) { s.G.Clips = make([]api.Clip, 8) }, func(s *api.State) { s.G.Clips = []api.Clip{{Path: api.Path{{}}}} }, func(s *api.State) {
			s.G.Clips = []api.Clip{{Path: api.Path{{Kind: api.Move}, {Kind: api.Curve}}}}
		}, func(s *api.State) { s.G.Font = api.Obj{Exec: true} }, func(s *api.State) { s.G.Font = dict(99) }, func(s *api.State) { s.G.Font = api.Obj{Kind: api.KInt} },
		func(s *api.State) { s.Marks = make([]api.Mark, 1) }, func(s *api.State) { s.Marks = slices.Repeat(s.Marks, 201) }, func(s *api.State) { s.Pages = slices.Repeat(s.Pages, 21) }, func(s *api.State) { s.Pages = make([]api.Page, 1) }, func(s *api.State) { s.Pages = []api.Page{{W: 129, H: 1}} }, func(s *api.State) { s.Pages = []api.Page{{W: 1, H: 129}} }, func(s *api.State) { s.Pages = []api.Page{{W: 1, H: 1, Marks: slices.Repeat(s.Marks, 201)}} },
		func(s *api.State) { s.Out = strings.Repeat("x", 2001) }, func(s *api.State) { s.Seed = 0 }, func(s *api.State) { s.Seed = api.MaxSeed + 1 },
	} {
		s := base
		change(&s)
		if Check(s) != api.ErrState {
			t.Error(i)
		}
	}
	for i, change := range []func(*api.State){
		func(s *api.State) { s.Ops = make([]api.Obj, 100) }, func(s *api.State) { s.Dicts = append(slices.Repeat(s.Dicts, 6), s.Dicts[:2]...) }, func(s *api.State) { s.Made = 99 }, func(s *api.State) { s.G.Clips = make([]api.Clip, 7) }, func(s *api.State) { s.Seed, s.Out = api.MaxSeed, strings.Repeat("x", 2000) }, func(s *api.State) { s.Marks = slices.Repeat(s.Marks[:1], 200) }, func(s *api.State) { s.G.Path = api.Path{{Kind: api.Move, P: [3]api.Point{{X: 8192, Y: -8192}}}} }, func(s *api.State) { cell(s, 34, func(c *api.Cell) { c.Bytes = "xyz" }) },
	} {
		s := base
		change(&s)
		if Check(s) != api.OK {
			t.Error(i)
		}
	}
	if Check(api.State{}) != api.ErrState {
		t.Error("the zero state")
	}
}

// P42.3
func TestRun(t *testing.T) {
	for program, want := range map[string][2]string{
		"1 2 add": {"3", "done"}, "1 add": {"1", "failed stackunderflow"}, "7 quit 8": {"7", "quit"}, "stop": {"", "stopped"}, "{} loop": {"", "timeout"}, "/Std findfont 10 scalefont setfont (AB) stringwidth": {"11.0 0.0", "done"}, "x": {"", "failed undefined"}, "": {"", "done"}, "systemdict /userdict get /x 5 put x": {"5", "done"},
		"/a 1 def save /a 2 def restore a": {"1", "done"}, "1 (}": {"1", "failed syntaxerror"},
	} {
		m, rest, e := Run(program, 100)
		if got := sketch.Show(m.State); got != want[0] || Outcome(m) != want[1] || e != api.OK || Check(m.State) != api.OK || (Outcome(m) == "timeout") != (rest == 0) {
			t.Errorf("%s: %s, %s, %d", program, got, Outcome(m), rest)
		}
	}
	for _, c := range []struct {
		source string
		fuel   int
		e      api.Errno
	}{{strings.Repeat(" ", 4001), -1, api.ErrLong}, {"", -1, api.ErrArg}, {"", 4001, api.ErrArg}, {strings.Repeat(" ", 4000), 4000, 0}, {"", 0, 0}} {
		m, rest, e := Run(c.source, c.fuel)
		l, e2 := Batch([]string{c.source}, c.fuel)
		if e != c.e || e2 != c.e || e != api.OK && (!reflect.DeepEqual(m, api.Machine{}) || rest != 0 || l != nil) {
			t.Error(len(c.source), c.fuel, e, e2)
		}
	}
	if l, e := Batch(make([]string, 21), -1); l != nil || e != api.ErrLong {
		t.Error(e)
	}
	if l, e := Batch([]string{" ", strings.Repeat(" ", 4001)}, -1); l != nil || e != api.ErrArg {
		t.Error(e)
	}
	l, e := Batch([]string{"/x 5 def", "x"}, 100)
	if e != api.OK || Outcome(l[0]) != "done" || Outcome(l[1]) != "failed undefined" {
		t.Error(e)
	}
	m, rest, _ := Run("1 2 add", 100)
	start := machine.Start(Initial(), "1 2 add")
	if m2, rest2 := machine.Run(start, 100); rest != rest2 || !reflect.DeepEqual(m, m2) {
		t.Error(rest, rest2)
	}
}

// Programs are made of these statements, and of the names of all operators.
const statements = "1; 2.5; true; null; mark; (ab); /a; {1 add}; { ; } ; a; b; pop; pop pop; dup; exch; clear; 1 2 add; 3 4.5 sub; 2 mul; 1 4 div; 7 2 idiv; 7 2 mod; neg; 5 abs; 2.5 round; 4 sqrt; rand; 7 srand; 1 1.0 eq; (a) (b) lt; 12 10 and; 1 3 bitshift; 5 type; /x cvx; (16#ff) cvi; 12 (abcd) cvs; -1 16 (abcdefgh) cvrs; " +
	"3 string; 2 array; 7 8 2 packedarray; (abc) length; [1 2] 1 get; (abc) dup 1 65 put; [1 2] dup 0 3 index put; (abcdef) 2 3 getinterval; (abcdef) dup 1 (XY) putinterval; [7 8] aload; 1 2 [0 0] astore; (ab) (wxyz) copy; 2 copy; <</a 1>> 3 dict copy; (abcbd) (b) search; (abc) (ab) anchorsearch; [ 1 2 ]; mark 1 2 ]; 1 index; 3 1 roll; count; counttomark; cleartomark; " +
	"3 dict; 3 dict begin; end; /a 5 def; /b {a 1 add} def; /a load; /a 6 store; userdict /a known; userdict /a undef; /a where; currentdict; countdictstack; userdict maxlength; <</a 1>> /a get; 2 dict dup /b 2 put; << /a 1 /b 2 >>; /f (616263 0a 4142>) /hex filter def; f read; f 2 string readstring; f 2 string readhexstring; f 9 string readline; f closefile; f bytesavailable; f status; (x) print; 1.5 =; [1 (x) {a}] ==; (31203220616464>) /hex filter cvx exec; " +
	"/R 5 /Generic defineresource; /R /Generic findresource; /R /Generic undefineresource; /R /Generic resourcestatus; save; /s save def; s restore; restore; dup restore; vmstatus; gsave; grestore; grestoreall; initgraphics; 3 setlinewidth; 1 setlinecap; 1 setlinejoin; 5 setmiterlimit; [3 2] 1 setdash; 2 setflat; 0.5 setgray; 1 0 0 setrgbcolor; 0 0.5 1 0 setcmykcolor; 8 9 settile; 1 2 30 40 [0 0 0 0] [0 0 0 1] setaxial; 9 9 2 8 [0 0 0 1] [1 0 0 0] setradial; " +
	"3 4 translate; 2 0.5 scale; 30 rotate; [1 0.2 0 1 3 4] concat; [1 0 0 -1 0 64] setmatrix; currentmatrix; initmatrix; 1 2 transform; 1 2 itransform; newpath; 10 10 moveto; 1 1 rmoveto; 20 30 lineto; 5 5 rlineto; 0 0 5 5 9 0 curveto; 1 1 2 2 3 0 rcurveto; closepath; currentpoint; pathbbox; flattenpath; reversepath; clip; eoclip; initclip; fill; eofill; stroke; 2 1 1 (ab) [3 0 0 3 1 1] image; erasepage; copypage; showpage; " +
	"/Std findfont 9 scalefont setfont; /Std findfont [9 0 1 5 0 0] makefont setfont; /X /Std findfont definefont; currentfont; (AxA) show; 1 0.5 (AA) ashow; (A) stringwidth; (AA) charpath; <</PageSize [96 128]>> setpagedevice; <</PageSize [60 60] /Policy 1>> setpagedevice; currentpagedevice; {1 add} exec; true {1} if; false {1} {2} ifelse; 3 {1} repeat; 1 1 3 {} for; 0 0.5 1 {} for; 5 {1 sub dup 0 le {exit} if} loop; [5 6] {} forall; <</a 1>> {} forall; (ab) {} forall; " +
	"{1 add none} stopped; {stop} stopped; {add x {sub}} bind; (1 {2} x) token; countexecstack; handleerror; (1 2 add) cvx exec; {save restore} stopped; errordict /typecheck {pop} put; errordict /undefined 5 put; $error /command get; /a /typecheck .record; {(a) restore} stopped; [ f s ]; {f s} stopped; " +
	"/Std findfont 20 scalefont setfont 10 10 moveto (AxA) show; /Std findfont 8 scalefont setfont 10 10 moveto (AxA) charpath fill; /Std findfont setfont 9 9 moveto 1 1 (AA) ashow; 10 10 moveto 0 0 5 50 30 0 curveto flattenpath fill; 1 1 moveto 30 0 rlineto 0 30 rlineto [3 2] 0 setdash stroke; 2 2 moveto 9 0 rlineto 0 9 rlineto 5 5 settile 1 1 moveto 50 0 rlineto 0 50 rlineto fill; (a\\012b) cvn; 2 string copy; (6162 63>) /hex filter dup 9 string readline; (6162>) /hex filter dup 9 string readstring; (61>) /hex filter dup closefile; 100 {1} repeat; count {pop} repeat"

func program(r *rand.Rand) string {
	l := append(strings.Split(statements, ";"), machine.Names()...)
	out := ""
	for range 4 + r.Intn(60) {
		w := l[r.Intn(len(l))]
		if w == "quit" || w == "stop" || w == "exit" {
			continue
		}
		// Most errors are stopped, so that the program goes on.
		if r.Intn(8) > 0 && strings.Count(w, "{") == strings.Count(w, "}") {
			w = "{" + w + "} stopped pop"
		}
		out += w + " "
	}
	return out[:min(len(out), 3500)]
}

// P42.4, and P2, P3
func TestConsequences(t *testing.T) {
	r := rand.New(rand.NewSource(1))
	handled := "errordict begin /typecheck {pop pop} def /stackunderflow {pop pop 1 2 3} def /undefined {pop pop} def /rangecheck {pop pop} def /nocurrentpoint {pop pop 1 1 moveto} def /invalidfont {pop pop} def /unmatchedmark {pop pop} def end "
	var sources []string
	for n := range 150 {
		source := program(r)
		if n%2 == 0 {
			source = handled + source
		}
		if len(sources) < 20 {
			sources = append(sources, source)
		}
		m := machine.Start(Initial(), source)
		for k := 0; k < 500 && m.Status == api.MRunning; k++ {
			before := m
			m = machine.Step(m)
			if Check(m.State) != api.OK {
				t.Fatalf("%s\nafter %v", source, before.Exec[len(before.Exec)-1])
			}
		}
		short, _, _ := Run(source, 400)
		if long, _, _ := Run(source, 800); Outcome(short) != "timeout" && !reflect.DeepEqual(short, long) {
			t.Error("with more fuel:", source)
		}
		// After a save, anything, and restore, the heap and the graphics states are those of the save.
		start := Initial()
		m, _ = machine.Run(machine.Start(start, "save "+source), 300)
		s := m.State
		s.Ops, s.Dicts = []api.Obj{{Kind: api.KSave, N: 1}}, s.Dicts[:2]
		if len(s.Saves) == 0 || s.Saves[0].N != 1 {
			continue
		}
		m, _ = machine.Run(machine.Start(s, "restore"), 9)
		if Outcome(m) != "done" || !reflect.DeepEqual(m.State.Heap, start.Heap) || !reflect.DeepEqual(m.State.G, start.G) || len(m.State.States) != 0 || Check(m.State) != api.OK {
			t.Fatal("restored otherwise:", source)
		}
	}
	batch, e := Batch(sources, 300)
	slices.Reverse(sources)
	back, e2 := Batch(sources, 300)
	for i := range batch {
		alone, _, _ := Run(sources[i], 300)
		if !reflect.DeepEqual(batch[i], back[len(back)-1-i]) || !reflect.DeepEqual(alone, back[i]) || e != api.OK || e2 != api.OK {
			t.Error("jobs are independent", i)
		}
	}
	if heap.Check(Initial().Heap) != api.OK {
		t.Error("the initial heap")
	}
}
