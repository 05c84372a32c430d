package dict

import (
	"math/rand"
	"reflect"
	"strings"
	"testing"

	"chase/api"
	"chase/sketch"
)

// state has systemdict, userdict with x, and D with a on the dictionary stack; D is the operand where the text says D.
func state(text string) api.State {
	s := sketch.Put(api.State{Out: "o", Seed: 3}, "<<>> <</x 5>> 2 spare <</a 7>> 1 spare")
	s.Dicts, s.Ops = s.Ops, nil
	for i, part := range strings.Split(text, "D") {
		if i > 0 {
			s.Ops = append(s.Ops, s.Dicts[2])
		}
		s = sketch.Put(s, part)
	}
	return s
}

func dicts(s api.State) string { return sketch.Text(s.Heap, s.Dicts) }

// does checks the operands and the dictionary stack after an operator.
func does(t *testing.T, from, op, ops, stack string) {
	t.Helper()
	s := state(from)
	got, e := Do(s, op)
	if stack == "" {
		stack = dicts(s)
	}
	if e != api.OK || sketch.Show(got) != ops || dicts(got) != stack {
		t.Errorf("%s, %s: %s; %s; %d", from, op, sketch.Show(got), dicts(got), e)
	}
	if !reflect.DeepEqual(s, state(from)) || got.Out != "o" || got.Seed != 3 {
		t.Errorf("%s, %s changes the old state, or more", from, op)
	}
}

func fails(t *testing.T, s api.State, op string, code api.Errno) {
	t.Helper()
	got, e := Do(s, op)
	if e != code || !reflect.DeepEqual(got, s) {
		t.Errorf("%s, %s: %s %d, want %d", sketch.Show(s), op, sketch.Show(got), e, code)
	}
}

const (
	long = "(xxxxxxxxxxxxxxxxxxxxxxxxxxxxxxxxxxxxxxxxxxxxxxxxxxxxxxxxxxxxxxxxxxxxxxxxxxxxxxxxxxxxxxxxxxxxxxxxxxxxx)"
	full = "<<>> <</x 5>> 2 spare <</a 7 /b 8>>"
)

func many(n int) string { return strings.Repeat("1 ", n) }

// P16.1
func TestOpsAndLookup(t *testing.T) {
	want := "dict begin end def load store known undef where currentdict countdictstack maxlength length get put copy << >>"
	if got := strings.Join(Ops(), " "); got != want {
		t.Error(got)
	}
	s := state("/a /x /b a")
	for i, want := range []string{"7", "5", "", ""} {
		v, ok := Lookup(s, s.Ops[i])
		if ok != (want != "") || ok && sketch.Text(s.Heap, []api.Obj{v}) != want || !ok && v != (api.Obj{}) {
			t.Error(s.Ops[i], v, ok)
		}
	}
	fails(t, s, "frob", api.Undefined)
	kinds := map[string]string{"dict": "1.0", "begin": "1", "def": "null 1", "load": "null", "store": "null 1", "known": "1 /a", "undef": "1 /a", "where": "null", "maxlength": "[]", "length": "(a)", "get": "1 /a", "put": "1 /a 1", "copy": "1 D"}
	for op, text := range kinds {
		fails(t, state(text), op, api.TypeCheck)
		fails(t, state(strings.Repeat("1 ", len(strings.Fields(text))-1)), op, api.StackUnderflow)
	}
}

// P16.2
func TestStack(t *testing.T) {
	does(t, "3", "dict", "<<>> 3 spare", "")
	does(t, "0", "dict", "<<>>", "")
	does(t, "200", "dict", "<<>> 200 spare", "")
	fails(t, state("201"), "dict", api.LimitCheck)
	fails(t, state("-1"), "dict", api.RangeCheck)
	does(t, "<<>> exec", "begin", "", "<<>> <</x 5>> 2 spare <</a 7>> 1 spare <<>> exec")
	does(t, "1", "end", "1", "<<>> <</x 5>> 2 spare")
	s, e := Do(state(""), "end")
	if e != api.OK {
		t.Error(e)
	}
	fails(t, s, "end", api.DictStackUnderflow)
	s = state("D")
	for len(s.Dicts) < 20 {
		s.Dicts = append(s.Dicts, s.Dicts[1])
	}
	fails(t, s, "begin", api.DictStackOverflow)
	does(t, "", "countdictstack", "3", "")
	does(t, "", "currentdict", "<</a 7>> 1 spare", "")
	for _, op := range []string{"countdictstack", "currentdict", "<<"} {
		fails(t, state(many(100)), op, api.StackOverflow)
	}
	fails(t, state(many(99)+"/a"), "where", api.StackOverflow)
	does(t, many(99)+"/b", "where", many(99)+"false", "")
	h := state("3")
	for range 4 {
		h.Heap = append(h.Heap, api.Cell{Kind: api.CFile, Bytes: strings.Repeat("x", 3999)})
	}
	h.Heap = append(h.Heap, api.Cell{Kind: api.CFile, Bytes: strings.Repeat("x", 3980)})
	fails(t, h, "dict", api.VMError)
	h.Ops = state("mark /a 1 /b 2 /c 3").Ops
	fails(t, h, ">>", api.VMError)
}

func TestDefinitions(t *testing.T) {
	does(t, "/b 8", "def", "", full)
	does(t, "1 /a (x)", "def", "1", "<<>> <</x 5>> 2 spare <</a (x)>> 1 spare")
	does(t, "(b) 8", "def", "", full)
	does(t, "2.0 8", "def", "", "<<>> <</x 5>> 2 spare <</a 7 2 8>>")
	does(t, "b 8", "def", "", full)
	s, _ := Do(state("/b 8"), "def")
	fails(t, sketch.Put(s, "/c 9"), "def", api.DictFull)
	fails(t, sketch.Put(s, "/c 9"), "store", api.DictFull)
	fails(t, state(long+" 1"), "def", api.RangeCheck)
	does(t, "/x 6", "store", "", "<<>> <</x 6>> 2 spare <</a 7>> 1 spare")
	does(t, "/y 6", "store", "", "<<>> <</x 5>> 2 spare <</a 7 /y 6>>")
	does(t, "/a 6", "store", "", "<<>> <</x 5>> 2 spare <</a 6>> 1 spare")
	fails(t, state(long+" 1"), "store", api.RangeCheck)
	does(t, "/a", "load", "7", "")
	does(t, "(a)", "load", "7", "")
	does(t, "/x", "load", "5", "")
	fails(t, state("/b"), "load", api.Undefined)
	fails(t, state("null"), "load", api.TypeCheck)
	fails(t, state(long), "load", api.RangeCheck)
	does(t, "D /a", "known", "true", "")
	does(t, "D /b", "known", "false", "")
}

func TestUndefAndWhere(t *testing.T) {
	does(t, "D /a", "undef", "", "<<>> <</x 5>> 2 spare <<>> 2 spare")
	does(t, "D /b", "undef", "", "")
	fails(t, state("D null"), "undef", api.TypeCheck)
	fails(t, state("D null"), "known", api.TypeCheck)
	fails(t, state("D "+long), "undef", api.RangeCheck)
	fails(t, state("D "+long), "known", api.RangeCheck)
	does(t, "/x", "where", "<</x 5>> 2 spare true", "")
	does(t, "/b", "where", "false", "")
	fails(t, state(long), "where", api.RangeCheck)
	s := state("/x")
	s.Dicts[1].Exec = true
	if got, e := Do(s, "where"); e != 0 || got.Ops[0] != s.Dicts[1] {
		t.Error("where returns the object on the dictionary stack")
	}
}

func TestAccess(t *testing.T) {
	does(t, "D", "maxlength", "2", "")
	does(t, "D", "length", "1", "")
	does(t, "D (a)", "get", "7", "")
	fails(t, state("D /b"), "get", api.Undefined)
	fails(t, state("D null"), "get", api.TypeCheck)
	fails(t, state("D "+long), "get", api.RangeCheck)
	does(t, "D /a 1", "put", "", "<<>> <</x 5>> 2 spare <</a 1>> 1 spare")
	fails(t, state("D null 1"), "put", api.TypeCheck)
	fails(t, state("D "+long+" 1"), "put", api.RangeCheck)
	fails(t, state("<<>> /a 1"), "put", api.DictFull)
	does(t, "D <</a 1>> 1 spare", "copy", "<</a 7>> 1 spare", "")
	does(t, "<<1 2 3 4>> <</q 0>> 2 spare exec", "copy", "<</q 0 1 2 3 4>> exec", "")
	does(t, "D D", "copy", "<</a 7>> 1 spare", "")
	fails(t, state("D <</b 1>>"), "copy", api.DictFull)
	fails(t, state("<<1 2 3 4 5 6>> <<>> 2 spare"), "copy", api.DictFull)
	does(t, "1", "<<", "1 mark", "")
	does(t, "0 mark /a 1 /b 2", ">>", "0 <</a 1 /b 2>>", "")
	does(t, "mark /a 1 (a) 2", ">>", "<</a 2>> 1 spare", "")
	does(t, "mark", ">>", "<<>>", "")
	fails(t, state("mark /a"), ">>", api.RangeCheck)
	fails(t, state("mark null"), ">>", api.RangeCheck)
	fails(t, state("/a 1"), ">>", api.UnmatchedMark)
	fails(t, state("/a"), ">>", api.UnmatchedMark)
	fails(t, state("mark null 1"), ">>", api.TypeCheck)
	fails(t, state("mark "+long+" 1"), ">>", api.RangeCheck)
	fails(t, state("mark "+long+" 1 null 1"), ">>", api.TypeCheck)
	s := state("D")
	s.Ops = append(s.Ops, s.Dicts[1])
	if got, e := Do(s, "copy"); e != 0 || sketch.Show(got) != "<</x 5 /a 7>> 1 spare" || dicts(got) != "<<>> <</x 5 /a 7>> 1 spare <</a 7>> 1 spare" {
		t.Error(sketch.Show(got), e)
	}
}

// P16.3
func TestConsequences(t *testing.T) {
	r := rand.New(rand.NewSource(1))
	for range 300 {
		s := state("")
		key := []string{"/a", "/x", "(b)", "1", "2.5", "true", "mark"}[r.Intn(7)]
		do := func(text, op string) string {
			next, e := Do(sketch.Put(s, text), op)
			if e != api.OK {
				t.Fatal(op, e)
			}
			s = next
			out := sketch.Show(s)
			s.Ops = nil
			return out
		}
		user := sketch.Text(s.Heap, s.Dicts[1:2])
		do(key+" 77", "def")
		if do(key, "load") != "77" || sketch.Text(s.Heap, s.Dicts[1:2]) != user {
			t.Error(key)
		}
		before := dicts(s)
		do("<</q 1>>", "begin")
		do("", "end")
		if dicts(s) != before {
			t.Error("begin and end")
		}
		s.Ops = []api.Obj{s.Dicts[2]}
		do(key, "undef")
		s.Ops = []api.Obj{s.Dicts[2]}
		if do(key, "known") != "false" {
			t.Error(key)
		}
	}
	// R1
	in := func(n int) api.Obj { return api.Obj{Kind: api.KInt, N: n} }
	odd := []api.Obj{in(-1 << 63), in(3), {Kind: 99}, {Kind: api.KString, Len: 5}, {Kind: api.KDict, Ref: 1}, {Kind: api.KDict, Ref: 9}, {Kind: api.KMark}, {Kind: api.KName, Name: "a"}}
	for _, op := range Ops() {
		for _, a := range odd {
			for _, b := range odd {
				for _, c := range odd {
					s := api.State{Ops: []api.Obj{a, b, c}, Dicts: []api.Obj{a, c}, Heap: []api.Cell{{Kind: api.CString, Bytes: "abc"}, {Kind: api.CDict, Max: 2, Keys: []api.Obj{a, b}, Vals: []api.Obj{a}}}}
					for _, s := range []api.State{s, {Ops: s.Ops}} {
						if got, e := Do(s, op); e != api.OK && !reflect.DeepEqual(got, s) {
							t.Error(op, a, b, c)
						}
					}
				}
			}
		}
	}
}
