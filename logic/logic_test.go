package logic

import (
	"math/rand"
	"reflect"
	"strings"
	"testing"

	"chase/api"
	"chase/sketch"
)

func state(text string) api.State {
	return sketch.Put(api.State{Out: "o", Seed: 3}, text)
}

func does(t *testing.T, from, op, to string) {
	t.Helper()
	s := state(from)
	got, e := Do(s, op)
	if e != api.OK || sketch.Show(got) != to {
		t.Errorf("%s, %s: %s %d, want %s", from, op, sketch.Show(got), e, to)
	}
	if !reflect.DeepEqual(s, state(from)) || got.Out != "o" || got.Seed != 3 {
		t.Errorf("%s, %s changes the old state, or more", from, op)
	}
}

func fails(t *testing.T, from, op string, code api.Errno) {
	t.Helper()
	s := state(from)
	got, e := Do(s, op)
	if e != code || !reflect.DeepEqual(got, s) {
		t.Errorf("%s, %s: %s %d, want %d", from, op, sketch.Show(got), e, code)
	}
}

// P14.1
func TestText(t *testing.T) {
	want := "eq ne lt le gt ge and or xor not bitshift true false null type xcheck cvx cvlit cvn cvi cvr cvs cvrs"
	if got := strings.Join(Ops(), " "); got != want {
		t.Error(got)
	}
	nothing := "--nostringval--"
	for text, want := range map[string]string{
		"-7": "-7", "-0.5": "-0.5", "true": "true", "false": "false", "/a": "a", "b": "b", "add op": "add", "(x y)": "x y", "()": "", "null": nothing, "mark": nothing, "[1]": nothing, "[1] packed": nothing, "<<>>": nothing, "() file": nothing, "1 save": nothing,
	} {
		s := state(text)
		if got := Text(s.Heap, s.Ops[0]); got != want {
			t.Errorf("%s: %q", text, got)
		}
	}
	h := state("(abcdef)").Heap
	for o, want := range map[api.Obj]string{{Kind: api.KString, Off: 1, Len: 2}: "bc", {Kind: api.KString, Off: 1, Len: 9}: "", {Kind: api.KInt, N: 1 << 40}: "", {Kind: 77}: "", {Kind: api.KDict}: ""} {
		if got := Text(h, o); got != want {
			t.Errorf("%v: %q", o, got)
		}
	}
}

// P14.2
func TestComparisons(t *testing.T) {
	does(t, "1 1.0", "eq", "true")
	does(t, "(a) /a", "eq", "true")
	does(t, "1 true", "eq", "false")
	does(t, "[1] [1]", "eq", "false")
	does(t, "1 1.0", "ne", "false")
	does(t, "null mark", "ne", "true")
	does(t, "(ab) (b)", "lt", "true")
	does(t, "(a) (ab)", "lt", "true")
	does(t, "(ab) (a)", "le", "false")
	does(t, "(\\377) (a)", "gt", "true")
	does(t, "() ()", "ge", "true")
	does(t, "2 1.5", "ge", "true")
	does(t, "2 2.0", "le", "true")
	does(t, "2 2.0", "lt", "false")
	does(t, "-1 1", "gt", "false")
	for _, op := range []string{"lt", "le", "gt", "ge"} {
		fails(t, "(a) 1", op, api.TypeCheck)
		fails(t, "1 (a)", op, api.TypeCheck)
		fails(t, "/a (a)", op, api.TypeCheck)
		fails(t, "1 true", op, api.TypeCheck)
		fails(t, "true", op, api.StackUnderflow)
	}
	fails(t, "1", "eq", api.StackUnderflow)
	fails(t, "", "ne", api.StackUnderflow)
}

func TestBits(t *testing.T) {
	does(t, "12 10", "and", "8")
	does(t, "12 10", "or", "14")
	does(t, "12 10", "xor", "6")
	does(t, "-1 5", "and", "5")
	does(t, "-2147483648 1", "or", "-2147483647")
	does(t, "-1 2147483647", "xor", "-2147483648")
	does(t, "true false", "or", "true")
	does(t, "true true", "xor", "false")
	does(t, "true true exec", "and", "true")
	does(t, "12", "not", "-13")
	does(t, "2147483647", "not", "-2147483648")
	does(t, "false", "not", "true")
	does(t, "7 -1", "bitshift", "3")
	does(t, "-1 -28", "bitshift", "15")
	does(t, "1 31", "bitshift", "-2147483648")
	does(t, "1 32", "bitshift", "0")
	does(t, "-1 -32", "bitshift", "0")
	does(t, "-1 -2147483648", "bitshift", "0")
	does(t, "5 0", "bitshift", "5")
	does(t, "-5 0", "bitshift", "-5")
	fails(t, "1 true", "and", api.TypeCheck)
	fails(t, "true 1", "or", api.TypeCheck)
	fails(t, "1.0 1", "xor", api.TypeCheck)
	fails(t, "1.0", "not", api.TypeCheck)
	fails(t, "1.0 1", "bitshift", api.TypeCheck)
	fails(t, "1 1.0", "bitshift", api.TypeCheck)
	fails(t, "1.0", "bitshift", api.StackUnderflow)
	fails(t, "", "not", api.StackUnderflow)
}

func TestConversions(t *testing.T) {
	does(t, "1", "true", "1 true")
	does(t, "", "false", "false")
	does(t, "", "null", "null")
	does(t, "/x", "type", "nametype")
	does(t, "[1] packed", "type", "packedarraytype")
	does(t, "{}", "xcheck", "true")
	does(t, "[]", "xcheck", "false")
	does(t, "1", "cvx", "1 exec")
	does(t, "x", "cvlit", "/x")
	does(t, "(abc)", "cvn", "/abc")
	does(t, "(abc) exec", "cvn", "abc")
	does(t, "()", "cvn", "/")
	does(t, "(16#ff)", "cvi", "255")
	does(t, "(1.5)", "cvi", "1")
	does(t, "-2.75", "cvi", "-2")
	does(t, "7 exec", "cvi", "7")
	does(t, "3", "cvr", "3.0")
	does(t, "(-2.5e1)", "cvr", "-25.0")
	does(t, "(32768)", "cvr", "32768.0")
	does(t, "1.5 exec", "cvr", "1.5")
	does(t, "-12 (abcde)", "cvs", "(-12)")
	does(t, "0.5 (abcde) exec", "cvs", "(0.5) exec")
	does(t, "() (abc)", "cvs", "()")
	does(t, "null (fifteen letters!)", "cvs", "(--nostringval--)")
	does(t, "255 16 (abcde)", "cvrs", "(FF)")
	does(t, "-1 16 (12345678)", "cvrs", "(FFFFFFFF)")
	does(t, "2.75 10 (abcd)", "cvrs", "(2.75)")
	does(t, "2.75 2 (abcd)", "cvrs", "(10)")
	does(t, "-0.5 36 (abcd)", "cvrs", "(0)")
	does(t, "35 36 (abcd) exec", "cvrs", "(Z) exec")
	for _, op := range []string{"true", "false", "null"} {
		fails(t, strings.Repeat("1 ", 100), op, api.StackOverflow)
	}
	for _, op := range []string{"type", "xcheck", "cvx", "cvlit", "cvn", "cvi", "cvr"} {
		fails(t, "", op, api.StackUnderflow)
	}
	fails(t, "1", "cvn", api.TypeCheck)
	fails(t, "("+strings.Repeat("x", 101)+")", "cvn", api.RangeCheck)
	for _, op := range []string{"cvi", "cvr"} {
		fails(t, "(x)", op, api.TypeCheck)
		fails(t, "( 1)", op, api.TypeCheck)
		fails(t, "true", op, api.TypeCheck)
		fails(t, "(99999999999)", op, api.RangeCheck)
	}
	fails(t, "40000", "cvr", api.UndefinedResult)
	fails(t, "(40000)", "cvr", api.UndefinedResult)
	fails(t, "mark (abc)", "cvs", api.RangeCheck)
	fails(t, "(abc)", "cvs", api.StackUnderflow)
	fails(t, "(abc) 1", "cvs", api.TypeCheck)
	fails(t, "1 37 (abc)", "cvrs", api.RangeCheck)
	fails(t, "1 1 (abc)", "cvrs", api.RangeCheck)
	fails(t, "8 2 (abc)", "cvrs", api.RangeCheck)
	fails(t, "1 2.0 (abc)", "cvrs", api.TypeCheck)
	fails(t, "true 2 (abc)", "cvrs", api.TypeCheck)
	fails(t, "1 2 /abc", "cvrs", api.TypeCheck)
	fails(t, "2 (abc)", "cvrs", api.StackUnderflow)
	fails(t, "1", "frob", api.Undefined)
}

// The string that cvs returns is a part of the one that it was given.
func TestWriting(t *testing.T) {
	s := state("42 (abcde)")
	s.Ops[1] = api.Obj{Kind: api.KString, Off: 1, Len: 3}
	got, e := Do(s, "cvs")
	if e != api.OK || got.Heap[0].Bytes != "a42de" || got.Ops[0] != (api.Obj{Kind: api.KString, Off: 1, Len: 2}) || s.Heap[0].Bytes != "abcde" {
		t.Error(got.Heap, got.Ops, e)
	}
}

// P14.3
func TestConsequences(t *testing.T) {
	r := rand.New(rand.NewSource(1))
	do := func(op string, s api.State) api.State {
		out, e := Do(s, op)
		if e != api.OK {
			t.Fatal(op, e)
		}
		return out
	}
	in := func(n int) api.Obj { return api.Obj{Kind: api.KInt, N: n} }
	for range 1000 {
		a, b := in(r.Intn(1<<32)-1<<31), in(r.Intn(1<<32)-1<<31)
		if r.Intn(3) == 0 {
			b.Kind = api.KReal
		}
		two := api.State{Ops: []api.Obj{a, b}}
		if do("lt", two).Ops[0].N+do("eq", two).Ops[0].N+do("gt", two).Ops[0].N != 1 {
			t.Error(a, b)
		}
		b.Kind = api.KInt
		two = api.State{Ops: []api.Obj{a, b}}
		x, y := do("not", api.State{Ops: []api.Obj{a}}).Ops[0], do("not", api.State{Ops: []api.Obj{b}}).Ops[0]
		if do("not", do("and", two)).Ops[0] != do("or", api.State{Ops: []api.Obj{x, y}}).Ops[0] {
			t.Error(a, b)
		}
		k := r.Intn(32)
		up := do("bitshift", api.State{Ops: []api.Obj{a, in(k)}})
		up.Ops = append(up.Ops, in(-k))
		if got := do("bitshift", up).Ops[0].N; got&(1<<(32-k)-1) != a.N&(1<<(32-k)-1) {
			t.Error(a, k, got)
		}
		s := state("(123456789012345678901234567890)")
		for kind, op := range map[int]string{api.KInt: "cvi", api.KReal: "cvr"} {
			n := api.Obj{Kind: kind, N: a.N}
			s.Ops = []api.Obj{n, {Kind: api.KString, Len: 30}}
			if got := do(op, do("cvs", s)).Ops[0]; got != n {
				t.Error(n, got)
			}
		}
		if do("xcheck", do("cvx", api.State{Ops: []api.Obj{a}})).Ops[0].N != 1 || do("xcheck", do("cvlit", api.State{Ops: []api.Obj{a}})).Ops[0].N != 0 {
			t.Error("xcheck")
		}
	}
	// R1
	odd := []api.Obj{{Kind: api.KInt, N: -1 << 63}, {Kind: api.KInt, N: 16}, {Kind: 99}, {Kind: api.KString, Len: 5}, {Kind: api.KString, Ref: -4}, {Kind: api.KReal, N: 1 << 62}, {Kind: api.KBool, N: 8}}
	for _, op := range Ops() {
		for _, a := range odd {
			for _, b := range odd {
				for _, c := range odd {
					s := api.State{Ops: []api.Obj{a, b, c}}
					if got, e := Do(s, op); e != api.OK && !reflect.DeepEqual(got, s) {
						t.Error(op, a, b)
					}
				}
			}
		}
	}
}
