package fault

import (
	"reflect"
	"strings"
	"testing"

	"chase/api"
	"chase/heap"
	"chase/sketch"
)

const all = "stackunderflow stackoverflow typecheck rangecheck undefined undefinedresult limitcheck VMerror dictstackunderflow dictstackoverflow dictfull invalidaccess unmatchedmark invalidexit invalidrestore execstackoverflow ioerror syntaxerror nocurrentpoint invalidfont undefinedresource configurationerror timeout"

// bare is a heap whose errordict and $error have room for so many keys.
func bare(handlers, keys int) []api.Cell {
	h := make([]api.Cell, api.FirstRefs)
	for i := range h {
		h[i].Kind = api.CDict
	}
	h[2].Max, h[3].Max = handlers, keys
	return h
}

func installed(t *testing.T, keys int, text string) api.State {
	t.Helper()
	h, e := Install(bare(30, keys))
	if e != api.OK {
		t.Fatal(e)
	}
	return sketch.Put(api.State{Heap: h, Out: "o\n"}, text)
}

func errorOf(s api.State) string { return sketch.Text(s.Heap, []api.Obj{lastError()}) }

// P40.1
func TestNames(t *testing.T) {
	for i, want := range strings.Fields(all) {
		e := api.Errno(20 + i)
		if Name(e) != want || Of(want) != e {
			t.Error(e, Name(e), Of(want))
		}
	}
	for _, e := range []api.Errno{0, 2, 19, 43, 130, -1, -1 << 63, 1<<63 - 1} {
		if Name(e) != "" {
			t.Error(e, Name(e))
		}
	}
	for _, s := range []string{"", "DICTFULL", "vmerror", "typecheck ", "x"} {
		if Of(s) != api.OK {
			t.Error(s)
		}
	}
}

// P40.2
func TestInstall(t *testing.T) {
	old := bare(22, 1)
	h, e := Install(old)
	if e != api.OK || heap.Check(h) != api.OK || !reflect.DeepEqual(old, bare(22, 1)) || len(h) != 32 {
		t.Fatal(len(h), e)
	}
	for i, want := range strings.Fields(all)[:22] {
		if h[2].Keys[i] != literal(want) || h[2].Vals[i] != (api.Obj{Kind: api.KArray, Exec: true, Ref: 10 + i, Len: 3}) || sketch.Text(h, h[10+i].Items) != "/"+want+" .record op stop op" {
			t.Error(i, h[2].Keys[i], sketch.Text(h, h[10+i].Items))
		}
	}
	if got := sketch.Text(h, []api.Obj{lastError()}); len(h[2].Keys) != 22 || got != "<</newerror false>>" {
		t.Error(got)
	}
	odd := bare(30, 12)
	odd[3].Kind = api.CString
	for i, c := range []struct {
		h []api.Cell
		e api.Errno
	}{{nil, api.ErrArg}, {bare(30, 12)[:3], api.ErrArg}, {odd, api.ErrArg}, {bare(21, 12), api.DictFull}, {bare(30, 0), api.DictFull}, {append(bare(30, 12), api.Cell{Kind: api.CFile, Bytes: strings.Repeat("x", 19860)}), api.VMError}, {append(bare(0, 12), api.Cell{Kind: api.CFile, Bytes: strings.Repeat("x", 19970)}), api.VMError}} {
		if h, e := Install(c.h); h != nil || e != c.e {
			t.Error(i, e)
		}
	}
	// Handlers that are there already are replaced.
	again, e := Install(h)
	if e != api.OK || len(again[2].Keys) != 22 || again[2].Vals[0].Ref != 32 {
		t.Error(e)
	}
}

// P40.3
func TestHandler(t *testing.T) {
	s := installed(t, 12, "")
	o, ok := Handler(s, api.TypeCheck)
	items, e := heap.Items(s.Heap, o)
	if !ok || e != api.OK || sketch.Text(s.Heap, items) != "/typecheck .record op stop op" {
		t.Error(o, ok)
	}
	h, _ := heap.Store(s.Heap, errorDict(), literal("timeout"), api.Obj{})
	h, _ = heap.Store(h, errorDict(), literal(""), api.Obj{})
	h, _ = heap.Store(h, errorDict(), literal("rangecheck"), api.Obj{Kind: api.KInt, N: 7})
	h, _ = heap.Remove(h, errorDict(), literal("undefined"))
	s.Heap = h
	for _, e := range []api.Errno{api.Timeout, api.Undefined, 0, 5, 43, -3} {
		if o, ok := Handler(s, e); ok || o != (api.Obj{}) {
			t.Error(e, o)
		}
	}
	if o, ok := Handler(s, api.RangeCheck); !ok || o.N != 7 {
		t.Error(o, ok)
	}
}

// P40.4
func TestDo(t *testing.T) {
	if got := strings.Join(Ops(), " "); got != ".record handleerror" {
		t.Error(got)
	}
	old := installed(t, 12, "1 add typecheck")
	s, e := Do(old, ".record")
	if e != api.OK || sketch.Show(s) != "1" || errorOf(s) != "<</newerror true /errorname /typecheck /command add /ostack [1]>> 8 spare" || errorOf(old) != "<</newerror false>> 11 spare" {
		t.Error(sketch.Show(s), errorOf(s), e)
	}
	report := "o\n%%[ Error: typecheck; OffendingCommand: add ]%%\n"
	for range 2 {
		s, e = Do(s, "handleerror")
		if e != api.OK || s.Out != report || sketch.Show(s) != "1" || !strings.HasPrefix(errorOf(s), "<</newerror false /errorname") {
			t.Error(s.Out, errorOf(s), e)
		}
	}
	for text, want := range map[string]api.Errno{"": api.StackUnderflow, "/a": api.StackUnderflow, "1 5": api.TypeCheck, "/a (b)": api.TypeCheck} {
		s := installed(t, 12, text)
		if got, e := Do(s, ".record"); e != want || !reflect.DeepEqual(got, s) {
			t.Error(text, e)
		}
	}
	if got, e := Do(old, "frob"); e != api.Undefined || !reflect.DeepEqual(got, old) {
		t.Error(e)
	}
}

func TestRoom(t *testing.T) {
	for keys, want := range map[int]string{1: "<</newerror true>>", 2: "<</newerror true /errorname /x>>", 3: "<</newerror true /errorname /x /command [7]>>", 4: "<</newerror true /errorname /x /command [7] /ostack []>>"} {
		s := installed(t, keys, "[7] /x")
		cells := len(s.Heap)
		s, e := Do(s, ".record")
		if e != api.OK || errorOf(s) != want || len(s.Heap) != cells+1 {
			t.Error(keys, errorOf(s), e)
		}
	}
	s := installed(t, 12, "1 2 3 (c) /x")
	fill := api.MaxHeap - heap.Total(s.Heap) - 4
	s.Heap = append(s.Heap, api.Cell{Kind: api.CFile, Bytes: strings.Repeat("x", fill)})
	got, e := Do(s, ".record")
	if e != api.OK || !strings.HasSuffix(errorOf(got), "/command (c) /ostack null>> 8 spare") || len(got.Heap) != len(s.Heap) {
		t.Error(errorOf(got), e)
	}
	s.Heap[len(s.Heap)-1].Bytes = strings.Repeat("x", fill-1)
	got, e = Do(s, ".record")
	if e != api.OK || !strings.HasSuffix(errorOf(got), "/command (c) /ostack [1 2 3]>> 8 spare") {
		t.Error(errorOf(got), e)
	}
	// Reports
	s, _ = Do(installed(t, 12, "(c) /x"), ".record")
	report := "%%[ Error: x; OffendingCommand: c ]%%\n"
	s.Out = strings.Repeat("x", api.MaxOut-len(report))
	if got, e := Do(s, "handleerror"); e != api.OK || len(got.Out) != api.MaxOut {
		t.Error(e)
	}
	s.Out += "x"
	if got, e := Do(s, "handleerror"); e != api.LimitCheck || !reflect.DeepEqual(got, s) {
		t.Error(e)
	}
	s = installed(t, 1, "(c) /x")
	s, _ = Do(s, ".record")
	if s, e = Do(s, "handleerror"); e != api.OK || s.Out != "o\n%%[ Error: ; OffendingCommand:  ]%%\n" {
		t.Error(s.Out, e)
	}
	s = installed(t, 12, "[1] /x")
	s, _ = Do(s, ".record")
	if s, e = Do(s, "handleerror"); e != api.OK || s.Out != "o\n%%[ Error: x; OffendingCommand: --nostringval-- ]%%\n" {
		t.Error(s.Out, e)
	}
	for _, val := range []api.Obj{{Kind: api.KInt, N: 1}, {}, {Kind: api.KBool}} {
		s := installed(t, 12, "")
		s.Heap, _ = heap.Store(s.Heap, lastError(), literal(keyNew), val)
		if got, e := Do(s, "handleerror"); e != api.OK || !reflect.DeepEqual(got, s) {
			t.Error(val, e)
		}
	}
}

// P40.5, and R1
func TestConsequences(t *testing.T) {
	for i := range 22 {
		e := api.Errno(20 + i)
		s := installed(t, 12, "5 (cmd) "+Name(e))
		if _, ok := Handler(s, e); !ok || Of(Name(e)) != e {
			t.Error(e)
		}
		s, _ = Do(s, ".record")
		s, code := Do(s, "handleerror")
		if code != api.OK || heap.Check(s.Heap) != api.OK || s.Out != "o\n%%[ Error: "+Name(e)+"; OffendingCommand: cmd ]%%\n" {
			t.Error(e, s.Out)
		}
	}
	for _, h := range [][]api.Cell{nil, bare(0, 0), bare(3, 3)[:3]} {
		for _, op := range Ops() {
			s := sketch.Put(api.State{}, "1 2 /x")
			s.Heap = h
			if got, e := Do(s, op); e != api.OK && !reflect.DeepEqual(got, s) {
				t.Error(op, e)
			}
			Handler(s, api.TypeCheck)
		}
	}
}
