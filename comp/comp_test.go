package comp

import (
	"math/rand"
	"reflect"
	"strings"
	"testing"

	"chase/api"
	"chase/heap"
	"chase/sketch"
)

func state(text string) api.State {
	return sketch.Put(api.State{Out: "o", Seed: 3}, text)
}

func does(t *testing.T, from, op, to string) {
	t.Helper()
	s := state(from)
	got, e := Do(s, op)
	if e != api.OK || sketch.Show(got) != to {
		t.Errorf("%s, %s: %s %d, want %s", from, op, sketch.Show(got), e, to)
	}
	if !reflect.DeepEqual(s, state(from)) || got.Out != "o" || got.Seed != 3 {
		t.Errorf("%s, %s changes the old state, or more", from, op)
	}
}

func fails(t *testing.T, from, op string, code api.Errno) {
	t.Helper()
	s := state(from)
	got, e := Do(s, op)
	if e != code || !reflect.DeepEqual(got, s) {
		t.Errorf("%s, %s: %s %d, want %d", from, op, sketch.Show(got), e, code)
	}
}

func many(n int) string { return strings.Repeat("1 ", n) }

// P15.1
func TestOps(t *testing.T) {
	want := "string array packedarray length get put getinterval putinterval aload astore copy search anchorsearch [ ]"
	if got := strings.Join(Ops(), " "); got != want {
		t.Error(got)
	}
	fails(t, "1", "frob", api.Undefined)
	operands := map[string]int{"string": 1, "array": 1, "packedarray": 1, "length": 1, "get": 2, "put": 3, "getinterval": 3, "putinterval": 3, "aload": 1, "astore": 1, "copy": 2, "search": 2, "anchorsearch": 2}
	for op, n := range operands {
		fails(t, strings.Repeat("null ", n-1), op, api.StackUnderflow)
		fails(t, strings.Repeat("null ", n), op, api.TypeCheck)
	}
}

// P15.2
func TestCreating(t *testing.T) {
	does(t, "3", "string", `(\000\000\000)`)
	does(t, "0", "string", "()")
	does(t, "2", "array", "[null null]")
	does(t, "1 7 8 2", "packedarray", "1 [7 8] packed")
	does(t, "0", "packedarray", "[] packed")
	does(t, "0 mark 1 (x) 2", "]", "0 [1 (x) 2]")
	does(t, "mark exec", "]", "[]")
	does(t, "1", "[", "1 mark")
	for _, op := range []string{"string", "array", "packedarray"} {
		fails(t, "-1", op, api.RangeCheck)
		fails(t, "1.0", op, api.TypeCheck)
	}
	fails(t, "1001", "string", api.LimitCheck)
	fails(t, "1001", "array", api.LimitCheck)
	fails(t, "7 2", "packedarray", api.StackUnderflow)
	fails(t, "7 1001", "packedarray", api.StackUnderflow)
	fails(t, "1 2", "]", api.UnmatchedMark)
	fails(t, "", "]", api.UnmatchedMark)
	fails(t, many(100), "[", api.StackOverflow)
	s := state("1000")
	for range 19 {
		s.Heap = append(s.Heap, api.Cell{Kind: api.CString, Bytes: strings.Repeat("x", 1000)})
	}
	s.Heap = append(s.Heap, api.Cell{Kind: api.CString, Bytes: strings.Repeat("x", 980)})
	for _, op := range []string{"string", "array"} {
		if _, e := Do(s, op); e != api.VMError {
			t.Error(op, e)
		}
	}
}

func TestElements(t *testing.T) {
	does(t, "(abc)", "length", "3")
	does(t, "/abcd", "length", "4")
	does(t, "[1 2] packed", "length", "2")
	fails(t, "<<>>", "length", api.TypeCheck)
	does(t, "(abc) 1", "get", "98")
	does(t, "[5 6] 1", "get", "6")
	does(t, "[5 {6}] packed 1", "get", "[6] exec")
	fails(t, "[5 6] 2", "get", api.RangeCheck)
	fails(t, "[5 6] -1", "get", api.RangeCheck)
	fails(t, "() 0", "get", api.RangeCheck)
	fails(t, "(abc) 1.0", "get", api.TypeCheck)
	s := state("(abc) 1 65")
	for text, want := range map[string]string{"(abc) 1 65": "aAc", "(abc) 0 0": "\x00bc", "(abc) 2 255": "ab\xff"} {
		s = state(text)
		if got, e := Do(s, "put"); e != 0 || got.Heap[0].Bytes != want || s.Heap[0].Bytes != "abc" || len(got.Ops) != 0 {
			t.Errorf("%s: %v %d", text, got.Heap, e)
		}
	}
	s = state("[1 2] 1 (x)")
	if got, e := Do(s, "put"); e != 0 || sketch.Text(got.Heap, s.Ops[:1]) != "[1 (x)]" || sketch.Text(s.Heap, s.Ops[:1]) != "[1 2]" {
		t.Error(got.Heap, e)
	}
	fails(t, "(abc) 1 256", "put", api.RangeCheck)
	fails(t, "(abc) 1 -1", "put", api.RangeCheck)
	fails(t, "(abc) 3 1", "put", api.RangeCheck)
	fails(t, "(abc) 1 1.0", "put", api.TypeCheck)
	fails(t, "(abc) 9 (x)", "put", api.TypeCheck)
	fails(t, "[1] 1.0 1", "put", api.TypeCheck)
	fails(t, "[1] 1 1", "put", api.RangeCheck)
	fails(t, "[1] packed 0 1", "put", api.InvalidAccess)
	fails(t, "[1] packed 7 1", "put", api.InvalidAccess)
}

func TestIntervals(t *testing.T) {
	does(t, "(abcdef) 2 3", "getinterval", "(cde)")
	does(t, "(abcdef) exec 6 0", "getinterval", "() exec")
	does(t, "[1 2 3] packed 1 2", "getinterval", "[2 3] packed")
	fails(t, "(abc) 2 2", "getinterval", api.RangeCheck)
	fails(t, "(abc) -1 2", "getinterval", api.RangeCheck)
	fails(t, "(abc) 1 -1", "getinterval", api.RangeCheck)
	fails(t, "(abc) 1 1.0", "getinterval", api.TypeCheck)
	fails(t, "/a 1 1", "getinterval", api.TypeCheck)
	s := state("(abcdef) 1 (XY)")
	if got, e := Do(s, "putinterval"); e != 0 || got.Heap[0].Bytes != "aXYdef" || len(got.Ops) != 0 {
		t.Error(got.Heap, e)
	}
	s = state("[1 2 3] 0 [4 5] packed")
	if got, e := Do(s, "putinterval"); e != 0 || sketch.Text(got.Heap, s.Ops[:1]) != "[4 5 3]" {
		t.Error(got.Heap, e)
	}
	// A list that is put into itself
	s = state("(abcdef) 2")
	s.Ops = append(s.Ops, api.Obj{Kind: api.KString, Len: 4})
	if got, e := Do(s, "putinterval"); e != 0 || got.Heap[0].Bytes != "ababcd" {
		t.Error(got.Heap, e)
	}
	fails(t, "[1 2 3] 2 [4 5]", "putinterval", api.RangeCheck)
	fails(t, "[1 2 3] -1 []", "putinterval", api.RangeCheck)
	fails(t, "[1 2 3] 0 (a)", "putinterval", api.TypeCheck)
	fails(t, "(abc) 0 [1]", "putinterval", api.TypeCheck)
	fails(t, "[1] packed 7 [1]", "putinterval", api.InvalidAccess)
	fails(t, "[1] packed 7 (a)", "putinterval", api.TypeCheck)
	does(t, "(ab) (wxyz)", "copy", "(ab)")
	does(t, "[1] [7 8] exec", "copy", "[1] exec")
	does(t, "[] packed []", "copy", "[]")
	s = state("(ab) (wxyz) exec")
	if got, e := Do(s, "copy"); e != 0 || got.Heap[1].Bytes != "abyz" || got.Ops[0] != (api.Obj{Kind: api.KString, Exec: true, Ref: 1, Len: 2}) {
		t.Error(got.Heap, e)
	}
	fails(t, "(abc) (wx)", "copy", api.RangeCheck)
	fails(t, "(abc) [1 2 3]", "copy", api.TypeCheck)
	fails(t, "[1] (a)", "copy", api.TypeCheck)
	fails(t, "[1 2] [1] packed", "copy", api.InvalidAccess)
}

func TestStoring(t *testing.T) {
	does(t, "0 [7 8]", "aload", "0 7 8 [7 8]")
	does(t, "[7] packed exec", "aload", "7 [7] packed exec")
	does(t, "0 1 2 [0 0]", "astore", "0 [1 2]")
	does(t, "5 []", "astore", "5 []")
	fails(t, "1 [0 0]", "astore", api.StackUnderflow)
	fails(t, "[0 0] packed", "astore", api.InvalidAccess)
	fails(t, many(98)+"[1 2]", "aload", api.StackOverflow)
	does(t, many(98)+"[1]", "aload", many(99)+"[1]")
}

func TestSearching(t *testing.T) {
	does(t, "(abcbd) (b)", "search", "(cbd) (b) (a) true")
	does(t, "(abc) (x)", "search", "(abc) false")
	does(t, "(abc) ()", "search", "(abc) () () true")
	does(t, "(ab) exec (ab)", "search", "() exec (ab) exec () exec true")
	does(t, "() (a)", "search", "() false")
	does(t, "(abc) (ab)", "anchorsearch", "(c) (ab) true")
	does(t, "(abc) (bc)", "anchorsearch", "(abc) false")
	does(t, "(abc) (abcd)", "anchorsearch", "(abc) false")
	does(t, many(98)+"(abc) (x)", "search", many(98)+"(abc) false")
	fails(t, many(97)+"(abc) (a)", "search", api.StackOverflow)
	fails(t, many(98)+"(abc) (a)", "anchorsearch", api.StackOverflow)
	does(t, many(96)+"(abc) (a)", "search", many(96)+"(bc) (a) () true")
	fails(t, "(abc) /a", "search", api.TypeCheck)
	fails(t, "[1] (a)", "anchorsearch", api.TypeCheck)
}

// P15.3
func TestConsequences(t *testing.T) {
	r := rand.New(rand.NewSource(1))
	do := func(s api.State, op string, l ...api.Obj) api.State {
		s.Ops = append(s.Ops[:len(s.Ops):len(s.Ops)], l...)
		out, e := Do(s, op)
		if e != api.OK {
			t.Fatal(op, e)
		}
		return out
	}
	in := func(n int) api.Obj { return api.Obj{Kind: api.KInt, N: n} }
	for range 300 {
		s := state("(abcabdabcx) [1 2 3 4 5]")
		text, list := s.Ops[0], s.Ops[1]
		s.Ops = nil
		i, c := r.Intn(5), r.Intn(256)
		for _, o := range []api.Obj{text, list} {
			after := do(s, "put", o, in(i), in(c))
			for k := range 5 {
				was, is := do(s, "get", o, in(k)).Ops[0], do(after, "get", o, in(k)).Ops[0]
				if k == i && is != in(c) || k != i && is != was {
					t.Error(o, i, c)
				}
			}
			if got := do(s, "copy", o, o); !reflect.DeepEqual(got.Heap, s.Heap) {
				t.Error("a copy into itself")
			}
		}
		loaded := do(s, "aload", list)
		if stored := do(loaded, "astore"); !reflect.DeepEqual(stored.Heap, s.Heap) {
			t.Error("aload and astore")
		}
		part, _ := heap.Interval(text, r.Intn(8), 1+r.Intn(2))
		found := do(s, "search", text, part)
		joined := ""
		for k := 2; k >= 0; k-- {
			x, _ := heap.Bytes(found.Heap, found.Ops[k])
			joined += x
		}
		if joined != "abcabdabcx" || found.Ops[3].N != 1 {
			t.Error(joined)
		}
	}
	// R1
	odd := []api.Obj{in(-1 << 63), in(1<<63 - 1), in(1), {Kind: 99}, {Kind: api.KString, Len: 5}, {Kind: api.KArray, Ref: 1, Off: -2, Len: 3}, {Kind: api.KArray, Ref: 1, Len: 2}, {Kind: api.KPacked, Ref: 9}, {Kind: api.KMark}}
	for _, op := range Ops() {
		for _, a := range odd {
			for _, b := range odd {
				for _, c := range odd {
					s := api.State{Ops: []api.Obj{a, b, c}, Heap: []api.Cell{{Kind: api.CString, Bytes: "abc"}, {Kind: api.CArray, Items: []api.Obj{a, b}}}}
					if got, e := Do(s, op); e != api.OK && !reflect.DeepEqual(got, s) {
						t.Error(op, a, b, c)
					}
				}
			}
		}
	}
}
