package arith

import (
	"math/rand"
	"reflect"
	"slices"
	"strconv"
	"strings"
	"testing"

	"chase/api"
)

// objects reads ints, reals (with a period; multiples of 1 / One) and names.
func objects(text string) []api.Obj {
	var l []api.Obj
	for _, w := range strings.Fields(text) {
		o := api.Obj{Kind: api.KName, Name: w}
		if n, err := strconv.Atoi(w); err == nil {
			o = api.Obj{Kind: api.KInt, N: n}
		} else if f, err := strconv.ParseFloat(w, 64); err == nil {
			o = api.Obj{Kind: api.KReal, N: int(f * 65536)}
		}
		l = append(l, o)
	}
	return l
}

func does(t *testing.T, from, op, to string, code api.Errno) {
	t.Helper()
	s := api.State{Ops: objects(from), Seed: 7, Out: "x"}
	for i := range s.Ops {
		s.Ops[i].Exec = true
	}
	got, e := Do(s, op)
	want := s
	if code == api.OK {
		want.Ops = objects(to)
		// What lies below the operands stays executable.
		for i := range min(len(want.Ops), len(s.Ops)) {
			want.Ops[i].Exec = got.Ops[i].Exec
		}
		if n := len(got.Ops); n > 0 && got.Ops[n-1].Exec && op != "srand" {
			t.Errorf("%s, %s: the result is not literal", from, op)
		}
	}
	if e != code || !slices.Equal(got.Ops, want.Ops) {
		t.Errorf("%s, %s: %v %d", from, op, got.Ops, e)
	}
	got.Ops, want.Ops, got.Seed = nil, nil, want.Seed
	if !reflect.DeepEqual(got, want) {
		t.Errorf("%s changes more", op)
	}
}

// P13.1, P13.2
func TestDo(t *testing.T) {
	if got := strings.Join(Ops(), " "); got != "add sub mul div idiv mod neg abs ceiling floor round truncate sqrt rand srand" {
		t.Error(got)
	}
	const undefined = api.UndefinedResult
	does(t, "3 4", "add", "7", 0)
	does(t, "9 3 4", "add", "9 7", 0)
	does(t, "3 4.5", "sub", "-1.5", 0)
	does(t, "3.0 4", "sub", "-1.0", 0)
	does(t, "2147483647 1", "add", "", undefined)
	does(t, "-2147483648 1", "sub", "", undefined)
	does(t, "65536 65536", "mul", "", undefined)
	does(t, "-65536 32768", "mul", "-2147483648", 0)
	does(t, "1.5 -2.25", "mul", "-3.375", 0)
	does(t, "1 4", "div", "0.25", 0)
	does(t, "40000 2", "div", "", undefined)
	does(t, "40000 0.5", "add", "", undefined)
	does(t, "0.5 40000", "add", "", undefined)
	does(t, "32768 0.5", "add", "", undefined)
	does(t, "1 0", "div", "", undefined)
	does(t, "1.0 0.0", "div", "", undefined)
	does(t, "7 -2", "idiv", "-3", 0)
	does(t, "-7 2", "mod", "-1", 0)
	does(t, "7 -2", "mod", "1", 0)
	does(t, "-2147483648 -1", "idiv", "", undefined)
	does(t, "-2147483648 -1", "mod", "0", 0)
	does(t, "1 0", "idiv", "", undefined)
	does(t, "1 0", "mod", "", undefined)
	does(t, "2.0 3", "idiv", "", api.TypeCheck)
	does(t, "2 3.0", "mod", "", api.TypeCheck)
	does(t, "-2147483648", "neg", "", undefined)
	does(t, "-2147483648", "abs", "", undefined)
	does(t, "-0.5", "abs", "0.5", 0)
	does(t, "-32768.0", "neg", "32768.0", 0)
	does(t, "5", "neg", "-5", 0)
	does(t, "2.5", "round", "3.0", 0)
	does(t, "-2.5", "round", "-2.0", 0)
	does(t, "-2.5", "ceiling", "-2.0", 0)
	does(t, "-2.5", "floor", "-3.0", 0)
	does(t, "-2.5", "truncate", "-2.0", 0)
	does(t, "7", "floor", "7", 0)
	does(t, "2147483647", "truncate", "2147483647", 0)
	does(t, "4", "sqrt", "2.0", 0)
	does(t, "-1", "sqrt", "", api.RangeCheck)
	does(t, "-0.5", "sqrt", "", api.RangeCheck)
	does(t, "-40000", "sqrt", "", api.RangeCheck)
	does(t, "40000", "sqrt", "", undefined)
}

func TestOperands(t *testing.T) {
	for _, op := range Ops() {
		switch op {
		case "rand":
		case "add", "sub", "mul", "div", "idiv", "mod":
			does(t, "", op, "", api.StackUnderflow)
			does(t, "x", op, "", api.StackUnderflow)
			does(t, "x 3", op, "", api.TypeCheck)
			does(t, "3 x", op, "", api.TypeCheck)
		default:
			does(t, "", op, "", api.StackUnderflow)
			does(t, "x", op, "", api.TypeCheck)
		}
	}
	does(t, "1.0", "srand", "", api.TypeCheck)
	does(t, "1 2", "frob", "", api.Undefined)
}

func TestRandom(t *testing.T) {
	run := func(s api.State, l ...string) api.State {
		for _, op := range l {
			next, e := Do(s, op)
			if e != api.OK {
				t.Fatal(op, e)
			}
			s = next
		}
		return s
	}
	s := run(api.State{Ops: objects("0")}, "srand", "rand", "rand")
	if !slices.Equal(s.Ops, objects("16807 282475249")) || s.Seed != 282475249 {
		t.Error(s.Ops, s.Seed)
	}
	for text, want := range map[string]int{"-1": 2147483646, "2147483646": 1, "2147483645": 2147483646, "-2147483648": 2147483645, "5": 6} {
		if s := run(api.State{Ops: objects("4 " + text)}, "srand"); s.Seed != want || len(s.Ops) != 1 {
			t.Errorf("%s srand: %d", text, s.Seed)
		}
	}
	for _, seed := range []int{0, -5, 1<<31 - 1, 1 << 60, 1} {
		if s := run(api.State{Seed: seed}, "rand"); s.Seed != 16807 {
			t.Errorf("seed %d: %d", seed, s.Seed)
		}
	}
	full := api.State{Ops: make([]api.Obj, 100), Seed: 5}
	if s, e := Do(full, "rand"); s.Seed != 5 || len(s.Ops) != 100 || e != api.StackOverflow {
		t.Error(s.Seed, e)
	}
	s = api.State{Seed: 2147483646}
	for range 90 {
		if s = run(s, "rand"); s.Seed < 1 || s.Seed > api.MaxSeed {
			t.Fatal(s.Seed)
		}
	}
}

// P13.3
func TestConsequences(t *testing.T) {
	r := rand.New(rand.NewSource(1))
	do := func(op string, l ...api.Obj) (api.Obj, api.Errno) {
		s, e := Do(api.State{Ops: l}, op)
		if e != api.OK {
			return api.Obj{}, e
		}
		return s.Ops[0], e
	}
	for range 2000 {
		a := api.Obj{Kind: api.KInt, N: r.Intn(1<<32) - 1<<31}
		b := api.Obj{Kind: api.KInt, N: r.Intn(1<<uint(2+r.Intn(30))) - 1<<20}
		q, e := do("idiv", a, b)
		m, _ := do("mod", a, b)
		if e == api.OK && (a.N != b.N*q.N+m.N || m.N*a.N < 0) {
			t.Error(a.N, b.N, q.N, m.N)
		}
		x, y := api.Obj{Kind: api.KReal, N: a.N}, api.Obj{Kind: api.KReal, N: b.N}
		if s, e := do("add", x, y); e == api.OK {
			if back, _ := do("sub", s, y); back != x {
				t.Error(x, y)
			}
		}
		f, _ := do("floor", x)
		c, _ := do("ceiling", x)
		for _, op := range []string{"round", "truncate"} {
			if n, _ := do(op, x); n.N < f.N || n.N > c.N || c.N-f.N > 65536 {
				t.Error(op, x)
			}
		}
		n, _ := do("neg", x)
		if n, _ = do("neg", n); n != x {
			t.Error("neg", x)
		}
		if n, e := do("abs", x); e != api.OK || n.N < 0 {
			t.Error("abs", x)
		}
	}
	// R1: also for states that are not valid
	odd := []api.Obj{{Kind: api.KInt, N: -1 << 63}, {Kind: api.KInt, N: -1}, {Kind: api.KReal, N: 1 << 62}, {Kind: api.KReal, N: -1 << 63}, {Kind: 99}}
	for _, op := range Ops() {
		for _, a := range odd {
			for _, b := range odd {
				s := api.State{Ops: []api.Obj{a, b}}
				if got, e := Do(s, op); e != api.OK && !reflect.DeepEqual(got, s) {
					t.Error(op, a, b)
				}
			}
		}
	}
}
