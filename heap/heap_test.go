package heap

import (
	"math/rand"
	"reflect"
	"slices"
	"strings"
	"testing"

	"chase/api"
)

func in(n int) api.Obj             { return api.Obj{Kind: api.KInt, N: n} }
func name(s string) api.Obj        { return api.Obj{Kind: api.KName, Name: s} }
func str(ref, off, n int) api.Obj  { return api.Obj{Kind: api.KString, Ref: ref, Off: off, Len: n} }
func arr(ref, off, n int) api.Obj  { return api.Obj{Kind: api.KArray, Ref: ref, Off: off, Len: n} }
func pack(ref, off, n int) api.Obj { return api.Obj{Kind: api.KPacked, Ref: ref, Off: off, Len: n} }
func dict(ref int) api.Obj         { return api.Obj{Kind: api.KDict, Ref: ref} }
func file(ref int) api.Obj         { return api.Obj{Kind: api.KFile, Ref: ref} }

// sample is the heap of the chapter's examples, and a file.
func sample() []api.Cell {
	return []api.Cell{
		{Kind: api.CString, Bytes: "abcdef"},
		{Kind: api.CArray, Items: []api.Obj{in(1), str(0, 2, 2), {}}},
		{Kind: api.CDict, Max: 2, Keys: []api.Obj{name("a")}, Vals: []api.Obj{in(7)}},
		{Kind: api.CFile, Bytes: "xyz", At: 2, Max: 1},
	}
}

// unchanged fails if a function wrote into the heap that it was given.
func unchanged(t *testing.T, h []api.Cell) {
	t.Helper()
	if !reflect.DeepEqual(h, sample()) {
		t.Fatalf("the heap was changed: %v", h)
	}
}

// P11.1
func TestCheck(t *testing.T) {
	many := make([]api.Obj, 1001)
	for _, h := range [][]api.Cell{nil, sample(), {{Kind: api.CString, Bytes: strings.Repeat("x", 1000)}}, {{Kind: api.CArray, Items: many[:1000]}}, {{Kind: api.CDict, Max: 200}}, {{Kind: api.CDict}}, {{Kind: api.CFile, Bytes: strings.Repeat("x", 4000), At: 4000}}, {{Kind: api.CDict, Max: 2, Keys: []api.Obj{in(1), {Kind: api.KReal, N: 1}}, Vals: many[:2]}}} {
		if e := Check(h); e != api.OK {
			t.Errorf("%.200v: %d", h, e)
		}
	}
	for i, c := range []api.Cell{
		{}, {Kind: 5}, {Kind: -1}, {Kind: api.CString, Bytes: strings.Repeat("x", 1001)}, {Kind: api.CString, Items: many[:1]}, {Kind: api.CString, Max: 1}, {Kind: api.CString, At: 1}, {Kind: api.CString, Keys: many[:1]}, {Kind: api.CString, Vals: many[:1]},
		{Kind: api.CArray, Items: many}, {Kind: api.CArray, Bytes: "x"}, {Kind: api.CArray, Max: 1}, {Kind: api.CArray, At: 1}, {Kind: api.CArray, Vals: many[:1]}, {Kind: api.CArray, Items: []api.Obj{str(0, 0, 1)}}, {Kind: api.CArray, Items: []api.Obj{{N: 1}}},
		{Kind: api.CDict, Max: -1}, {Kind: api.CDict, Max: 201}, {Kind: api.CDict, Max: 1, Bytes: "x"}, {Kind: api.CDict, Max: 1, Items: many[:1]}, {Kind: api.CDict, Max: 1, At: 1}, {Kind: api.CDict, Max: 2, Keys: []api.Obj{in(1)}}, {Kind: api.CDict, Max: 2, Vals: many[:1]},
		{Kind: api.CDict, Keys: []api.Obj{in(1)}, Vals: many[:1]}, {Kind: api.CDict, Max: 2, Keys: []api.Obj{in(1), in(1)}, Vals: many[:2]}, {Kind: api.CDict, Max: 1, Keys: []api.Obj{{Kind: api.KReal, N: 65536}}, Vals: many[:1]}, {Kind: api.CDict, Max: 1, Keys: many[:1], Vals: many[:1]},
		{Kind: api.CDict, Max: 1, Keys: []api.Obj{{Kind: api.KName, Exec: true}}, Vals: many[:1]}, {Kind: api.CDict, Max: 1, Keys: []api.Obj{dict(9)}, Vals: many[:1]}, {Kind: api.CDict, Max: 1, Keys: []api.Obj{in(1)}, Vals: []api.Obj{dict(9)}},
		{Kind: api.CFile, Bytes: strings.Repeat("x", 4001)}, {Kind: api.CFile, At: 1}, {Kind: api.CFile, At: -1}, {Kind: api.CFile, Max: 2}, {Kind: api.CFile, Max: -1}, {Kind: api.CFile, Items: many[:1]},
	} {
		if e := Check([]api.Cell{c}); e != api.ErrHeap {
			t.Errorf("cell %d: %d", i, e)
		}
		if e := Check(append(sample(), c)); e != api.ErrHeap && i != 14 {
			t.Errorf("cell %d in a heap: %d", i, e)
		}
	}
	var full []api.Cell
	for range 4 {
		full = append(full, api.Cell{Kind: api.CFile, Bytes: strings.Repeat("x", 4000)})
	}
	full = append(full, api.Cell{Kind: api.CFile, Bytes: strings.Repeat("x", 3995)})
	if Total(full) != 20000 || Check(full) != api.OK || Check(append(full, api.Cell{Kind: api.CString})) != api.ErrHeap {
		t.Error("the total")
	}
	if h, ref, e := New(full, api.Cell{Kind: api.CString}); h != nil || ref != 0 || e != api.VMError {
		t.Error("New in a full heap")
	}
}

func TestSizes(t *testing.T) {
	h := sample()
	if Total(h[:3]) != 16 || Size(h[2]) != 5 || Size(h[3]) != 4 || Size(api.Cell{Kind: 9, Bytes: "a", Items: make([]api.Obj, 2)}) != 4 || Size(api.Cell{Kind: api.CDict, Max: 10000}) != 401 || Size(api.Cell{Kind: api.CDict, Max: -4}) != 1 {
		t.Error("sizes")
	}
	for o, want := range map[api.Obj]bool{
		str(0, 4, 3): false, str(0, 4, 2): true, str(1, 0, 0): false, str(4, 0, 0): false, str(-1, 0, 0): false, arr(1, 0, 3): true, arr(1, 1, 3): false, pack(1, 3, 0): true, arr(0, 0, 0): false, pack(2, 0, 0): false,
		dict(2): true, dict(1): false, file(3): true, file(2): false, in(1): true, in(1 << 31): false, {}: true, {Kind: 77}: false, {Kind: api.KString, Off: 1 << 62, Len: 1 << 62}: false,
	} {
		if Fits(h, o) != want {
			t.Errorf("Fits(%v)", o)
		}
	}
	g, ref, e := New(h, api.Cell{Kind: api.CDict, Max: 10000})
	if e != api.OK || ref != 4 || len(g) != 5 || g[4].Max != 10000 {
		t.Error("New")
	}
	unchanged(t, h)
}

// P11.2
func TestReading(t *testing.T) {
	h := sample()
	if s, e := Bytes(h, str(0, 1, 2)); s != "bc" || e != api.OK {
		t.Error(s, e)
	}
	l, e := Items(h, arr(1, 1, 1))
	if !slices.Equal(l, []api.Obj{str(0, 2, 2)}) || e != api.OK {
		t.Error(l, e)
	}
	_ = append(l, in(99))
	unchanged(t, h)
	if l, e := Items(h, pack(1, 0, 2)); len(l) != 2 || e != api.OK {
		t.Error(l, e)
	}
	for o, want := range map[api.Obj]int{dict(2): 1, name("xyz"): 3, str(0, 1, 2): 2, arr(1, 1, 2): 2, pack(1, 0, 0): 0} {
		if n, e := Len(h, o); n != want || e != api.OK {
			t.Errorf("Len(%v): %d %d", o, n, e)
		}
	}
	for o, want := range map[api.Obj]api.Errno{in(1): api.TypeCheck, file(3): api.TypeCheck, {}: api.TypeCheck, {Kind: api.KOperator, Name: "x"}: api.TypeCheck, dict(1): api.ErrArg, str(0, 5, 2): api.ErrArg, {Kind: api.KBool, N: 2}: api.ErrArg} {
		n, e := Len(h, o)
		s, e2 := Bytes(h, o)
		l, e3 := Items(h, o)
		if n != 0 || s != "" || l != nil || e != want || e2 != want || e3 != want {
			t.Errorf("%v: %d %d %d", o, e, e2, e3)
		}
	}
	if _, e := Bytes(h, arr(1, 0, 1)); e != api.TypeCheck {
		t.Error(e)
	}
	if _, e := Items(h, str(0, 0, 1)); e != api.TypeCheck {
		t.Error(e)
	}
}

func TestInterval(t *testing.T) {
	big := 1<<63 - 1
	for _, c := range []struct {
		o      api.Obj
		off, n int
		want   api.Obj
		e      api.Errno
	}{
		{str(0, 1, 4), 2, 2, str(0, 3, 2), 0}, {str(0, 1, 4), 2, 3, api.Obj{}, api.RangeCheck}, {str(0, 1, 4), 4, 0, str(0, 5, 0), 0}, {str(0, 1, 4), 5, 0, api.Obj{}, api.RangeCheck}, {arr(1, 0, 2), -1, 1, api.Obj{}, api.RangeCheck}, {arr(1, 0, 2), 1, -1, api.Obj{}, api.RangeCheck},
		{pack(7, 0, 2), 1, 1, pack(7, 1, 1), 0}, {arr(1, 0, 2), big, big, api.Obj{}, api.RangeCheck}, {dict(2), 0, 0, api.Obj{}, api.TypeCheck}, {in(1 << 40), 0, 0, api.Obj{}, api.ErrArg},
		{api.Obj{Kind: api.KArray, Exec: true, Len: 3}, 1, 1, api.Obj{Kind: api.KArray, Exec: true, Off: 1, Len: 1}, 0},
	} {
		if o, e := Interval(c.o, c.off, c.n); o != c.want || e != c.e {
			t.Errorf("%v: %v %d", c, o, e)
		}
	}
}

// P11.3
func TestPut(t *testing.T) {
	h := sample()
	g, e := PutBytes(h, str(0, 1, 4), 3, "X")
	if e != api.OK || g[0].Bytes != "abcdXf" {
		t.Error(g, e)
	}
	g, e = PutItems(h, arr(1, 1, 2), 1, []api.Obj{in(5)})
	if e != api.OK || !slices.Equal(g[1].Items, []api.Obj{in(1), str(0, 2, 2), in(5)}) {
		t.Error(g, e)
	}
	for _, c := range []struct {
		o    api.Obj
		at   int
		s    string
		want api.Errno
	}{{str(0, 1, 4), 4, "X", api.RangeCheck}, {str(0, 1, 4), -1, "", api.RangeCheck}, {str(0, 1, 4), 5, "", api.RangeCheck}, {arr(1, 0, 1), 0, "", api.TypeCheck}, {str(0, 0, 7), 0, "", api.ErrArg}} {
		if g, e := PutBytes(h, c.o, c.at, c.s); g != nil || e != c.want {
			t.Errorf("%v: %d", c, e)
		}
	}
	for _, c := range []struct {
		o    api.Obj
		at   int
		want api.Errno
	}{{pack(1, 0, 1), 5, api.InvalidAccess}, {arr(1, 0, 1), 1, api.RangeCheck}, {arr(1, 0, 1), -1, api.RangeCheck}, {str(0, 0, 1), 0, api.TypeCheck}, {pack(0, 0, 1), 0, api.ErrArg}} {
		if g, e := PutItems(h, c.o, c.at, []api.Obj{{}}); g != nil || e != c.want {
			t.Errorf("%v: %d", c, e)
		}
	}
	unchanged(t, h)
}

// P11.4
func TestDictionaries(t *testing.T) {
	h := sample()
	if k, e := Key(h, str(0, 0, 1)); k != name("a") || e != api.OK {
		t.Error(k, e)
	}
	long := append(sample(), api.Cell{Kind: api.CString, Bytes: strings.Repeat("x", 101)})
	for o, want := range map[api.Obj]api.Errno{{}: api.TypeCheck, str(4, 0, 101): api.RangeCheck, str(4, 0, 102): api.ErrArg, dict(0): api.ErrArg} {
		if k, e := Key(long, o); k != (api.Obj{}) || e != want {
			t.Errorf("%v: %v %d", o, k, e)
		}
	}
	if k, e := Key(long, str(4, 0, 100)); k != name(strings.Repeat("x", 100)) || e != api.OK {
		t.Error(e)
	}
	if k, e := Key(h, api.Obj{Kind: api.KReal, N: 131072, Exec: true}); k != in(2) || e != api.OK {
		t.Error(k, e)
	}
	find := func(h []api.Cell, d, key, want api.Obj, found bool, code api.Errno) {
		t.Helper()
		if v, ok, e := Find(h, d, key); v != want || ok != found || e != code {
			t.Errorf("Find(%v, %v): %v %v %d", d, key, v, ok, e)
		}
	}
	find(h, dict(2), name("a"), in(7), true, 0)
	find(h, dict(2), api.Obj{Kind: api.KName, Exec: true, Name: "a"}, api.Obj{}, false, 0)
	find(h, dict(1), name("a"), api.Obj{}, false, api.ErrArg)
	find(h, arr(1, 0, 1), name("a"), api.Obj{}, false, api.TypeCheck)
	g, e := Store(h, dict(2), name("b"), in(8))
	find(g, dict(2), name("b"), in(8), true, 0)
	find(g, dict(2), name("a"), in(7), true, 0)
	if g, e := Store(g, dict(2), name("c"), in(9)); g != nil || e != api.DictFull {
		t.Error(e)
	}
	g2, e2 := Store(g, dict(2), name("a"), in(1))
	find(g2, dict(2), name("a"), in(1), true, 0)
	find(g, dict(2), name("a"), in(7), true, 0)
	g3, e3 := Remove(g2, dict(2), name("a"))
	find(g3, dict(2), name("a"), api.Obj{}, false, 0)
	find(g3, dict(2), name("b"), in(8), true, 0)
	find(g2, dict(2), name("a"), in(1), true, 0)
	g4, e4 := Remove(g3, dict(2), name("zz"))
	if e != 0 || e2 != 0 || e3 != 0 || e4 != 0 || !reflect.DeepEqual(g3, g4) {
		t.Error("Store and Remove")
	}
	for o, want := range map[api.Obj]api.Errno{str(0, 0, 0): api.TypeCheck, dict(0): api.ErrArg} {
		g, e := Store(h, o, name("a"), in(1))
		g2, e2 := Remove(h, o, name("a"))
		if g != nil || g2 != nil || e != want || e2 != want {
			t.Error(o, e, e2)
		}
	}
	unchanged(t, h)
}

func TestOddDictionaries(t *testing.T) {
	h := []api.Cell{{Kind: api.CDict, Max: 3, Keys: []api.Obj{in(1), in(1), in(2)}, Vals: []api.Obj{in(5), in(6)}}}
	if v, ok, _ := Find(h, dict(0), in(1)); v != in(5) || !ok {
		t.Error("the first place counts")
	}
	if _, ok, _ := Find(h, dict(0), in(2)); ok {
		t.Error("a key without a value has no place")
	}
	if _, e := Store(h, dict(0), in(2), in(9)); e != api.DictFull {
		t.Error(e)
	}
	if g, e := Remove(h, dict(0), in(1)); e != 0 || len(g[0].Keys) != 2 || len(g[0].Vals) != 1 || g[0].Vals[0] != in(6) {
		t.Error(g, e)
	}
}

// P11.5
func TestEqualAndReach(t *testing.T) {
	h := append(sample(), api.Cell{Kind: api.CString, Bytes: "a"}, api.Cell{Kind: api.CArray, Items: []api.Obj{arr(5, 0, 1), dict(6)}}, api.Cell{Kind: api.CDict, Max: 1, Keys: []api.Obj{file(3)}, Vals: []api.Obj{dict(0)}})
	re := func(n int) api.Obj { return api.Obj{Kind: api.KReal, N: n} }
	exec := func(o api.Obj) api.Obj { o.Exec = true; return o }
	for _, c := range []struct {
		a, b api.Obj
		want bool
	}{
		{in(1), re(65536), true}, {str(0, 0, 1), name("a"), true}, {str(0, 0, 1), str(4, 0, 1), true}, {arr(1, 0, 3), arr(1, 0, 2), false}, {arr(1, 0, 3), exec(arr(1, 0, 3)), true}, {arr(1, 0, 3), pack(1, 0, 3), false},
		{in(1), api.Obj{Kind: api.KBool, N: 1}, false}, {name("a"), api.Obj{Kind: api.KOperator, Name: "a"}, false}, {name("a"), exec(name("a")), true}, {dict(2), dict(2), true}, {dict(9), dict(9), false}, {in(1 << 40), in(1 << 40), false}, {api.Obj{}, api.Obj{}, true}, {str(0, 0, 0), name(""), true},
	} {
		if Equal(h, c.a, c.b) != c.want || Equal(h, c.b, c.a) != c.want {
			t.Errorf("%v %v", c.a, c.b)
		}
	}
	for _, c := range []struct {
		l    []api.Obj
		want string
	}{
		{[]api.Obj{arr(1, 0, 1)}, "ab"}, {nil, ""}, {[]api.Obj{in(1), dict(1), str(0, 7, 0)}, ""}, {[]api.Obj{arr(5, 0, 0)}, "fgd"}, {[]api.Obj{dict(2), str(4, 0, 0)}, "ce"},
	} {
		got := Reach(h, c.l)
		for i, x := range got {
			if x != strings.Contains(c.want, string(rune('a'+i))) {
				t.Errorf("%v: %v", c.l, got)
			}
		}
		if len(got) != len(h) {
			t.Error("as many as cells")
		}
	}
}

// P11.6, and R1: arbitrary heaps and objects
func TestArbitrary(t *testing.T) {
	r := rand.New(rand.NewSource(1))
	obj := func() api.Obj {
		o := api.Obj{Kind: r.Intn(api.Kinds), Ref: r.Intn(7), Off: r.Intn(3), Len: r.Intn(3)}
		if r.Intn(2) == 0 {
			o = []api.Obj{in(r.Intn(4)), name("a"), dict(r.Intn(6)), {Kind: r.Int(), Off: -r.Int()}}[r.Intn(4)]
		}
		return o
	}
	objs := func() []api.Obj {
		l := make([]api.Obj, r.Intn(4))
		for i := range l {
			l[i] = obj()
		}
		return l
	}
	for range 3000 {
		h := make([]api.Cell, r.Intn(6))
		for i := range h {
			h[i] = api.Cell{Kind: r.Intn(6), Bytes: "abc"[:r.Intn(4)], Items: objs(), Keys: objs(), Vals: objs(), Max: r.Intn(9), At: r.Intn(5)}
		}
		a, b, c := obj(), obj(), obj()
		Reach(h, objs())
		Equal(h, a, b)
		Find(h, a, b)
		Remove(h, a, b)
		Key(h, a)
		Len(h, a)
		valid := Check(h) == api.OK
		key, e := Key(h, b)
		if g, e2 := Store(h, a, key, c); e == api.OK && e2 == api.OK {
			if valid && Fits(h, c) && Check(g) != api.OK {
				t.Error("Store leaves the heap valid")
			}
		}
		if g, e := PutBytes(h, a, r.Intn(3)-1, "xyz"[:r.Intn(4)]); e == api.OK && Check(g) != Check(h) {
			t.Error("PutBytes")
		}
		PutItems(h, a, r.Intn(3)-1, objs())
	}
}
