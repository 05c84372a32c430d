package resource

import (
	"reflect"
	"strings"
	"testing"

	"chase/api"
	"chase/sketch"
)

func name(s string) api.Obj       { return api.Obj{Kind: api.KName, Name: s} }
func dict(ref int) api.Obj        { return api.Obj{Kind: api.KDict, Ref: ref} }
func truth(n int) api.Obj         { return api.Obj{Kind: api.KBool, N: n} }
func number(n int) api.Obj        { return api.Obj{Kind: api.KInt, N: n} }
func list(l ...api.Obj) []api.Obj { return l }

// base has the categories, of which each has room for two resources, and a number in place of a dictionary for Odd.
func base() api.State {
	s := api.State{Out: "o"}
	for range api.FirstRefs {
		s.Heap = append(s.Heap, api.Cell{Kind: api.CDict, Max: 2})
	}
	categories := &s.Heap[api.RefCategories]
	categories.Max = 9
	for i, c := range strings.Fields("Font Pattern Encoding Form Generic") {
		categories.Keys = append(categories.Keys, name(c))
		categories.Vals = append(categories.Vals, dict(api.RefFont+i))
	}
	categories.Keys = append(categories.Keys, name("Odd"))
	categories.Vals = append(categories.Vals, number(1))
	return s
}

func state(text string) api.State { return sketch.Put(base(), text) }

func does(t *testing.T, s api.State, op, to string) api.State {
	t.Helper()
	old := sketch.Text(s.Heap, s.Ops)
	got, e := Do(s, op)
	if e != api.OK || sketch.Show(got) != to || got.Out != "o" {
		t.Errorf("%s, %s: %s %d, want %s", sketch.Show(s), op, sketch.Show(got), e, to)
	}
	if sketch.Text(s.Heap, s.Ops) != old {
		t.Errorf("%s changes the old state", op)
	}
	return got
}

func fails(t *testing.T, s api.State, op string, code api.Errno) {
	t.Helper()
	got, e := Do(s, op)
	if e != code || !reflect.DeepEqual(got, s) {
		t.Errorf("%s, %s: %s %d, want %d", sketch.Show(s), op, sketch.Show(got), e, code)
	}
}

func with(s api.State, text string) api.State {
	s.Ops = nil
	return sketch.Put(s, text)
}

// P18.1
func TestOpsAndFind(t *testing.T) {
	if got := strings.Join(Ops(), " "); got != "defineresource findresource undefineresource resourcestatus" {
		t.Error(got)
	}
	s := does(t, state("(F) <</a 1>> (Font)"), "defineresource", "<</a 1>>")
	for _, c := range []struct {
		category string
		key      api.Obj
		want     string
		e        api.Errno
	}{{"Font", name("F"), "<</a 1>>", 0}, {"Font", name("G"), "", api.UndefinedResource}, {"Form", name("F"), "", api.UndefinedResource}, {"Fonts", name("F"), "", api.Undefined}, {"Odd", name("F"), "", api.Undefined}, {strings.Repeat("x", 101), name("F"), "", api.Undefined}, {"", name("F"), "", api.Undefined}} {
		o, e := Find(s, c.category, c.key)
		if e != c.e || e == api.OK && sketch.Text(s.Heap, list(o)) != c.want || e != api.OK && o != (api.Obj{}) {
			t.Errorf("%s %v: %v %d", c.category, c.key, o, e)
		}
	}
}

// P18.2
func TestDo(t *testing.T) {
	long := "(" + strings.Repeat("x", 101) + ")"
	s := does(t, state("7 /F <</a 1>> /Font"), "defineresource", "7 <</a 1>>")
	does(t, with(s, "/F /Font"), "findresource", "<</a 1>>")
	does(t, with(s, "(F) (Font)"), "findresource", "<</a 1>>")
	does(t, with(s, "1 F Font"), "findresource", "1 <</a 1>>")
	fails(t, with(s, "/F /Form"), "findresource", api.UndefinedResource)
	fails(t, with(s, "/F /Fonts"), "findresource", api.Undefined)
	fails(t, with(s, "/F /Odd"), "findresource", api.Undefined)
	does(t, with(s, "/F /Form"), "resourcestatus", "false")
	does(t, with(s, "(F) /Font"), "resourcestatus", "true")
	fails(t, with(s, "(F) /Fonts"), "resourcestatus", api.Undefined)
	for _, c := range []string{"Font", "Pattern", "Form"} {
		fails(t, state("/F 1 /"+c), "defineresource", api.TypeCheck)
		fails(t, state("/F [1] /"+c), "defineresource", api.TypeCheck)
		does(t, state("/F <<>> ("+c+")"), "defineresource", "<<>>")
	}
	fails(t, state("/F 1 /Encoding"), "defineresource", api.TypeCheck)
	fails(t, state("/F <<>> /Encoding"), "defineresource", api.TypeCheck)
	does(t, state("/F [1] packed /Encoding"), "defineresource", "[1] packed")
	does(t, state("2.0 [1] /Encoding"), "defineresource", "[1]")
	does(t, state("/F 1 /Generic"), "defineresource", "1")
	does(t, state("/F null /Generic"), "defineresource", "null")
	fails(t, state("null <<>> /Font"), "defineresource", api.TypeCheck)
	fails(t, state("/F <<>> 1"), "defineresource", api.TypeCheck)
	fails(t, state("/F 1 /Fonts"), "defineresource", api.Undefined)
	fails(t, state(long+" 1 /Fonts"), "defineresource", api.RangeCheck)
	fails(t, state("/F 1 "+long), "defineresource", api.RangeCheck)
	fails(t, state(long+" 1 null"), "defineresource", api.TypeCheck)
	fails(t, state("<<>> /Font"), "defineresource", api.StackUnderflow)
	for _, op := range []string{"findresource", "undefineresource", "resourcestatus"} {
		fails(t, state("/Font"), op, api.StackUnderflow)
		fails(t, state("null /Font"), op, api.TypeCheck)
		fails(t, state("/F 1"), op, api.TypeCheck)
		fails(t, state(long+" /Font"), op, api.RangeCheck)
		fails(t, state("/F "+long), op, api.RangeCheck)
		fails(t, state("/F /Fonts"), op, api.Undefined)
	}
	s = does(t, with(s, "/F /Font"), "undefineresource", "")
	fails(t, with(s, "/F /Font"), "findresource", api.UndefinedResource)
	does(t, with(s, "/F /Font"), "undefineresource", "")
	s = does(t, state("/F 1 /Generic"), "defineresource", "1")
	s = does(t, with(s, "/G 2 /Generic"), "defineresource", "2")
	fails(t, with(s, "/H 3 /Generic"), "defineresource", api.DictFull)
	s = does(t, with(s, "/G 4 /Generic"), "defineresource", "4")
	does(t, with(s, "/G /Generic"), "findresource", "4")
	fails(t, s, "frob", api.Undefined)
}

// P18.3
func TestConsequences(t *testing.T) {
	s := state("")
	categories := strings.Fields("Font Pattern Encoding Form Generic")
	for i, c := range categories {
		instance := []string{"<<>>", "<<>>", "[]", "<<>>", "7"}[i]
		before := s
		next := does(t, with(s, "/K "+instance+" /"+c), "defineresource", instance)
		for k, other := range categories {
			_, e := Find(next, other, name("K"))
			if (e == api.OK) != (k <= i) {
				t.Error(c, other, e)
			}
		}
		for ref := range api.FirstRefs {
			if ref != api.RefFont+i && !reflect.DeepEqual(next.Heap[ref], before.Heap[ref]) {
				t.Error("another dictionary is changed")
			}
		}
		s = next
	}
	// R1
	odd := list(number(-1<<63), name("Font"), dict(5), dict(99), api.Obj{Kind: 99}, api.Obj{Kind: api.KString, Ref: 2, Len: 3}, truth(7), api.Obj{})
	for _, op := range Ops() {
		for _, a := range odd {
			for _, b := range odd {
				for _, c := range odd {
					full := base()
					full.Ops = list(a, b, c)
					full.Heap[4].Vals[0] = dict(77)
					for _, s := range []api.State{{Ops: full.Ops}, full} {
						if got, e := Do(s, op); e != api.OK && !reflect.DeepEqual(got, s) {
							t.Error(op, a, b, c)
						}
					}
				}
			}
		}
	}
}
