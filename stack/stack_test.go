package stack

import (
	"math/rand"
	"reflect"
	"slices"
	"strconv"
	"strings"
	"testing"

	"chase/api"
)

// state reads operands: ints, m for a mark, other words for names.
func state(text string) api.State {
	var s api.State
	for _, w := range strings.Fields(text) {
		o := api.Obj{Kind: api.KName, Name: w}
		if n, err := strconv.Atoi(w); err == nil {
			o = api.Obj{Kind: api.KInt, N: n}
		}
		if w == "m" {
			o = api.Obj{Kind: api.KMark}
		}
		s.Ops = append(s.Ops, o)
	}
	s.Seed = 7
	return s
}

func many(n int) string { return strings.Repeat("5 ", n) }

func does(t *testing.T, from, op, to string, code api.Errno) {
	t.Helper()
	s, want := state(from), state(to)
	got, e := Do(s, op)
	if code != api.OK {
		want = s
	}
	if !slices.Equal(got.Ops, want.Ops) || e != code {
		t.Errorf("%s, %s: %v %d", from, op, got.Ops, e)
	}
	got.Ops, want.Ops = nil, nil
	if !reflect.DeepEqual(got, want) || !reflect.DeepEqual(s, state(from)) {
		t.Errorf("%s: more than Ops is changed", op)
	}
}

// P12.1
func TestDo(t *testing.T) {
	does(t, "1 2", "pop", "1", 0)
	does(t, "1 2 3", "exch", "1 3 2", 0)
	does(t, "1 m", "dup", "1 m m", 0)
	does(t, "1 2 2", "copy", "1 2 1 2", 0)
	does(t, "1 2 0", "copy", "1 2", 0)
	does(t, "5 6 7 2", "index", "5 6 7 5", 0)
	does(t, "5 6 7 0", "index", "5 6 7 7", 0)
	does(t, "1 2 3 3 1", "roll", "3 1 2", 0)
	does(t, "1 2 3 3 -1", "roll", "2 3 1", 0)
	does(t, "1 2 3 2 5", "roll", "1 3 2", 0)
	does(t, "1 2 3 3 -7", "roll", "2 3 1", 0)
	does(t, "1 2 3 3 -6", "roll", "1 2 3", 0)
	does(t, "7 0 9", "roll", "7", 0)
	does(t, "1 2 3 3 9223372036854775807", "roll", "3 1 2", 0)
	does(t, "1 2 3 3 -9223372036854775808", "roll", "3 1 2", 0)
	does(t, "1 2 m", "clear", "", 0)
	does(t, "", "clear", "", 0)
	does(t, "8 9", "count", "8 9 2", 0)
	does(t, "", "mark", "m", 0)
	does(t, "1 m 2 m 3 4", "cleartomark", "1 m 2", 0)
	does(t, "1 m 2 3", "counttomark", "1 m 2 3 2", 0)
	does(t, "1 m 2 3", "cleartomark", "1", 0)
	does(t, "m", "counttomark", "m 0", 0)
}

func TestErrors(t *testing.T) {
	for _, op := range []string{"pop", "exch", "dup", "copy", "index", "roll"} {
		does(t, "", op, "", api.StackUnderflow)
	}
	does(t, "1", "exch", "", api.StackUnderflow)
	does(t, "1", "roll", "", api.StackUnderflow)
	does(t, "1 2", "copy", "", api.StackUnderflow)
	does(t, "5 6 7 3", "index", "", api.StackUnderflow)
	does(t, "0", "index", "", api.StackUnderflow)
	does(t, "4 2 0", "roll", "", api.StackUnderflow)
	does(t, "9223372036854775807", "index", "", api.StackUnderflow)
	does(t, "9223372036854775807", "copy", "", api.StackUnderflow)
	does(t, "x", "index", "", api.TypeCheck)
	does(t, "x", "copy", "", api.TypeCheck)
	does(t, "1 x 0", "roll", "", api.TypeCheck)
	does(t, "1 -1 x", "roll", "", api.TypeCheck)
	does(t, "1 -1 0", "roll", "", api.RangeCheck)
	does(t, "1 -1", "copy", "", api.RangeCheck)
	does(t, "1 -1", "index", "", api.RangeCheck)
	does(t, "1 2", "cleartomark", "", api.UnmatchedMark)
	does(t, "", "counttomark", "", api.UnmatchedMark)
	does(t, many(100), "counttomark", "", api.UnmatchedMark)
	does(t, many(100), "dup", "", api.StackOverflow)
	does(t, many(100), "mark", "", api.StackOverflow)
	does(t, many(100), "count", "", api.StackOverflow)
	does(t, "m "+many(99), "counttomark", "", api.StackOverflow)
	does(t, many(51)+"50", "copy", "", api.StackOverflow)
	does(t, many(50)+"50", "copy", many(100), 0)
	does(t, many(99), "dup", many(100), 0)
	does(t, "1", "frob", "", api.Undefined)
	does(t, "1", "", "", api.Undefined)
	names := "pop exch dup copy index roll clear count mark cleartomark counttomark"
	if got := strings.Join(Ops(), " "); got != names {
		t.Error(got)
	}
	if _, e := Do(api.State{Ops: []api.Obj{{Kind: api.KReal, N: 65536}}}, "index"); e != api.TypeCheck {
		t.Error(e)
	}
}

// P12.2
func TestHelpers(t *testing.T) {
	s := state("1 2 3")
	s.Ops = slices.Grow(s.Ops, 10)
	a, e := Push(s, state("4 5").Ops...)
	b, e2 := Push(s, state("6").Ops...)
	if e != 0 || e2 != 0 || !slices.Equal(a.Ops, state("1 2 3 4 5").Ops) || !slices.Equal(b.Ops, state("1 2 3 6").Ops) {
		t.Error(a.Ops, b.Ops)
	}
	if a, e := Push(state(many(99)), s.Ops[:2]...); len(a.Ops) != 99 || e != api.StackOverflow {
		t.Error(e)
	}
	l, e := Top(s, 2)
	if !slices.Equal(l, state("2 3").Ops) || e != 0 {
		t.Error(l, e)
	}
	c, e := Drop(s, 2)
	c, _ = Push(c, state("9").Ops...)
	if !slices.Equal(c.Ops, state("1 9").Ops) || !slices.Equal(s.Ops, state("1 2 3").Ops) || e != 0 {
		t.Error(c.Ops, s.Ops)
	}
	for n, want := range map[int]api.Errno{-1: api.ErrArg, 4: api.StackUnderflow, 1 << 62: api.StackUnderflow} {
		l, e := Top(s, n)
		c, e2 := Drop(s, n)
		if l != nil || e != want || e2 != want || len(c.Ops) != 3 {
			t.Error(n, e, e2)
		}
	}
	if l, e := Top(s, 0); len(l) != 0 || e != 0 {
		t.Error(l, e)
	}
}

// P12.3
func TestConsequences(t *testing.T) {
	r := rand.New(rand.NewSource(1))
	for range 500 {
		s := state(many(r.Intn(20) + 2))
		for i := range s.Ops {
			s.Ops[i].N = i
		}
		run := func(s api.State, l ...any) api.State {
			for _, x := range l {
				if n, ok := x.(int); ok {
					s, _ = Push(s, api.Obj{Kind: api.KInt, N: n})
				} else if next, e := Do(s, x.(string)); e == api.OK {
					s = next
				} else {
					t.Fatal(x, e)
				}
			}
			return s
		}
		n, j := r.Intn(len(s.Ops)), r.Intn(99)-50
		for _, l := range [][]any{{"exch", "exch"}, {"dup", "pop"}, {"mark", 1, 2, "cleartomark"}, {n, j, "roll", n, -j, "roll"}, {n, j, "roll", n, n*100 - j, "roll"}} {
			if got := run(s, l...); !slices.Equal(got.Ops, s.Ops) {
				t.Errorf("%v changes %v to %v", l, s.Ops, got.Ops)
			}
		}
	}
}
