package media

import (
	"reflect"
	"strings"
	"testing"

	"chase/api"
	"chase/gstate"
	"chase/sketch"
)

// P39.1
func TestChoose(t *testing.T) {
	const none, arg = api.ConfigurationError, api.ErrArg
	for _, c := range []struct {
		w, h, policy int
		wide, high   int
		e            api.Errno
	}{
		{64, 96, 0, 64, 96, 0}, {96, 64, 2, 64, 96, 0}, {96, 64, 0, 0, 0, none}, {60, 60, 0, 0, 0, none}, {60, 60, 1, 64, 64, 0}, {60, 60, 2, 0, 0, none}, {65, 65, 1, 96, 128, 0}, {97, 64, 1, 128, 128, 0}, {64, 65, 1, 64, 96, 0}, {128, 96, 2, 96, 128, 0}, {128, 1, 1, 128, 128, 0}, {128, 128, 2, 128, 128, 0}, {1, 1, 1, 64, 64, 0}, {96, 97, 1, 96, 128, 0},
		{0, 1, 0, 0, 0, arg}, {1, 1, 3, 0, 0, arg}, {1, 0, 0, 0, 0, arg}, {129, 1, 1, 0, 0, arg}, {1, 129, 1, 0, 0, arg}, {64, 64, -1, 0, 0, arg},
	} {
		if w, h, e := Choose(c.w, c.h, c.policy); w != c.wide || h != c.high || e != c.e {
			t.Error(c, w, h, e)
		}
	}
	if got := strings.Join(Ops(), " "); got != "setpagedevice currentpagedevice" {
		t.Error(got)
	}
}

func base(t *testing.T, text string) api.State {
	g, e := gstate.Initial(64, 64)
	if e != api.OK {
		t.Fatal(e)
	}
	g.Flat, g.FontM.A, g.Pen.Width, g.Clips = 9, 5, 99, make([]api.Clip, 1)
	return sketch.Put(api.State{G: g, Out: "o", Marks: make([]api.Mark, 2)}, text)
}

// P39.2
func TestSet(t *testing.T) {
	for text, want := range map[string]size{
		"<</PageSize [96 128]>>": {96, 128}, "<<>>": {64, 64}, "<</Policy 2 /Other (x)>>": {64, 64}, "<</PageSize [60 60] packed /Policy 1>>": {64, 64}, "<</Policy 2 /PageSize [96 64]>>": {64, 96}, "<</PageSize [128 128] /Policy 0>>": {128, 128},
	} {
		s := base(t, "7 "+text)
		got, e := Do(s, "setpagedevice")
		g, _ := gstate.Initial(want.w, want.h)
		g.Flat, g.FontM.A = 9, 5
		if e != api.OK || !reflect.DeepEqual(got.G, g) || len(got.Marks) != 0 || sketch.Show(got) != "7" || got.Out != "o" {
			t.Error(text, got.G, e)
		}
	}
	for text, want := range map[string]api.Errno{
		"": api.StackUnderflow, "1": api.TypeCheck, "[96 128]": api.TypeCheck, "<</PageSize 5 /Policy (x)>>": api.TypeCheck, "<</PageSize (ab)>>": api.TypeCheck, "<</PageSize [64]>>": api.RangeCheck, "<</PageSize [64 64 (x)]>>": api.RangeCheck, "<</PageSize [64.0 0]>>": api.TypeCheck, "<</PageSize [0 64.0]>>": api.RangeCheck, "<</PageSize [64 64.0]>>": api.TypeCheck, "<</PageSize [64 129]>>": api.RangeCheck,
		"<</PageSize [60 60] /Policy 1.0>>": api.TypeCheck, "<</PageSize [60 60] /Policy 3>>": api.RangeCheck, "<</Policy -1>>": api.RangeCheck, "<</Policy null>>": api.TypeCheck, "<</PageSize [60 60]>>": api.ConfigurationError, "<</PageSize [60 60] /Policy 2>>": api.ConfigurationError,
	} {
		s := base(t, text)
		if got, e := Do(s, "setpagedevice"); e != want || !reflect.DeepEqual(got, s) {
			t.Error(text, e)
		}
	}
	s := base(t, "1")
	if got, e := Do(s, "frob"); e != api.Undefined || !reflect.DeepEqual(got, s) {
		t.Error(e)
	}
}

func TestCurrent(t *testing.T) {
	s := base(t, "7")
	got, e := Do(s, "currentpagedevice")
	if e != api.OK || sketch.Show(got) != "7 <</PageSize [64 64]>>" || len(got.Heap) != 2 || got.Heap[0].Kind != api.CArray || got.Heap[1].Max != 1 || !reflect.DeepEqual(got.G, s.G) {
		t.Error(sketch.Show(got), e)
	}
	full := base(t, strings.Repeat("1 ", 100))
	if got, e := Do(full, "currentpagedevice"); e != api.StackOverflow || !reflect.DeepEqual(got, full) {
		t.Error(e)
	}
	for room := range 8 {
		s := base(t, "7")
		s.Heap = []api.Cell{{Kind: api.CFile, Bytes: strings.Repeat("x", 19999-room)}}
		got, e := Do(s, "currentpagedevice")
		if fits := room >= 6; fits != (e == api.OK) || !fits && (e != api.VMError || !reflect.DeepEqual(got, s)) {
			t.Error(room, e)
		}
		full.Heap = s.Heap
		if _, e := Do(full, "currentpagedevice"); e != api.StackOverflow {
			t.Error(e)
		}
	}
}

// P39.3
func TestConsequences(t *testing.T) {
	for w := 1; w <= 128; w++ {
		for h := 1; h <= 128; h++ {
			for policy := range 3 {
				a, b, e := Choose(w, h, policy)
				if e != api.OK {
					continue
				}
				is := false
				for _, s := range trays() {
					is = is || s == size{a, b}
					if policy == api.PolicyLarger && s.w >= w && s.h >= h && s.w*s.h < a*b {
						t.Error("a smaller tray", w, h)
					}
				}
				if !is || policy == api.PolicyLarger && (a < w || b < h) {
					t.Error(w, h, policy, a, b)
				}
				for again := range 3 {
					if x, y, e := Choose(a, b, again); x != a || y != b || e != api.OK {
						t.Error("granted", a, b, again)
					}
				}
			}
		}
	}
	s := base(t, "<</PageSize [96 128]>>")
	for _, op := range []string{"setpagedevice", "currentpagedevice", "setpagedevice"} {
		next, e := Do(s, op)
		if e != api.OK {
			t.Fatal(op, e)
		}
		s = next
	}
	if s.G.W != 96 || s.G.H != 128 {
		t.Error(s.G.W, s.G.H)
	}
	// R1
	for _, o := range []api.Obj{{Kind: api.KDict, Ref: -1}, {Kind: api.KDict}, {Kind: 99}} {
		for _, op := range Ops() {
			s := api.State{Ops: []api.Obj{o}, Heap: []api.Cell{{Kind: api.CDict, Keys: []api.Obj{key(keySize)}, Vals: []api.Obj{{Kind: api.KArray, Ref: 7}}}}, G: api.Graphics{W: -1 << 62}}
			if got, e := Do(s, op); e != api.OK && !reflect.DeepEqual(got, s) {
				t.Error(op, e)
			}
		}
	}
}
