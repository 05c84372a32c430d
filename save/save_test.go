package save

import (
	"math/rand"
	"reflect"
	"strings"
	"testing"

	"chase/api"
	"chase/heap"
	"chase/sketch"
)

// base has ten cells, of which the last one is the string abc.
func base() api.State {
	s := api.State{Out: "o", Seed: 3}
	for range 9 {
		s.Heap = append(s.Heap, api.Cell{Kind: api.CDict})
	}
	s.Heap = append(s.Heap, api.Cell{Kind: api.CString, Bytes: "abc"})
	s.Dicts = []api.Obj{{Kind: api.KDict}, {Kind: api.KDict, Ref: 1}}
	s.G = api.Graphics{W: 64, H: 64}
	return s
}

func do(t *testing.T, s api.State, op string) api.State {
	t.Helper()
	got, e := Do(s, op)
	if e != api.OK {
		t.Errorf("%s: %d", op, e)
	}
	return got
}

func fails(t *testing.T, s api.State, op string, code api.Errno) {
	t.Helper()
	got, e := Do(s, op)
	if e != code || !reflect.DeepEqual(got, s) {
		t.Errorf("%s: %d, want %d", op, e, code)
	}
}

func push(s api.State, l ...api.Obj) api.State {
	s.Ops = append(append([]api.Obj{}, s.Ops...), l...)
	return s
}

func object(n int) api.Obj { return api.Obj{Kind: api.KSave, N: n} }

// P19.1
func TestHelpers(t *testing.T) {
	if got := strings.Join(Ops(), " "); got != "save restore vmstatus" {
		t.Error(got)
	}
	for kind := range api.Kinds {
		composite := kind == api.KString || kind == api.KArray || kind == api.KPacked || kind == api.KDict || kind == api.KFile
		if Newer(api.Obj{Kind: kind, Ref: 5}, 5) != composite || Newer(api.Obj{Kind: kind, Ref: 4}, 5) {
			t.Error(kind)
		}
	}
	s := do(t, base(), "save")
	s.Heap = append(s.Heap, api.Cell{Kind: api.CString})
	s = do(t, s, "save")
	for n, want := range map[int]int{1: 10, 2: 11, 0: 0, 3: 0} {
		if cells, ok := Cells(s, n); cells != want || ok != (want > 0) {
			t.Error(n, cells, ok)
		}
	}
}

// P19.2
func TestDo(t *testing.T) {
	s := base()
	saved := do(t, s, "save")
	if sketch.Show(saved) != "1 save" || saved.Made != 1 || len(saved.Saves) != 1 || saved.Saves[0].N != 1 || saved.Saves[0].States != 0 || !reflect.DeepEqual(saved.Saves[0].Heap, s.Heap) || len(saved.States) != 1 || !reflect.DeepEqual(saved.States[0], s.G) {
		t.Error(saved)
	}
	changed := saved
	changed.Heap, _ = heap.PutBytes(changed.Heap, api.Obj{Kind: api.KString, Ref: 9, Len: 3}, 0, "A")
	changed.G.W, changed.Out, changed.Seed = 9, "out", 4
	changed.Marks, changed.Pages = make([]api.Mark, 1), make([]api.Page, 2)
	restored := do(t, changed, "restore")
	if !reflect.DeepEqual(restored.Heap, s.Heap) || len(restored.Ops) != 0 || len(restored.Saves) != 0 || len(restored.States) != 0 || restored.G.W != 64 || restored.Made != 1 || restored.Out != "out" || restored.Seed != 4 || len(restored.Marks) != 1 || len(restored.Pages) != 2 || !reflect.DeepEqual(restored.Dicts, s.Dicts) {
		t.Error(restored)
	}
	fails(t, push(restored, object(1)), "restore", api.InvalidRestore)
	if again := do(t, restored, "save"); again.Made != 2 || again.Ops[0] != object(2) {
		t.Error("numbers are not used twice")
	}
	two := do(t, saved, "save")
	two.Ops = nil
	outer := do(t, push(two, object(1)), "restore")
	fails(t, push(outer, object(2)), "restore", api.InvalidRestore)
	inner := do(t, push(two, object(2)), "restore")
	if len(inner.Saves) != 1 || len(inner.States) != 1 {
		t.Error("the outer save stays in force")
	}
	fails(t, push(s, api.Obj{Kind: api.KInt, N: 1}), "restore", api.TypeCheck)
	fails(t, s, "restore", api.StackUnderflow)
	fails(t, s, "frob", api.Undefined)
	status := do(t, push(two, api.Obj{}), "vmstatus")
	if sketch.Show(status) != "null 2 13 20000" {
		t.Error(sketch.Show(status))
	}
	full := push(s, make([]api.Obj, 98)...)
	fails(t, full, "vmstatus", api.StackOverflow)
	full = push(full, make([]api.Obj, 2)...)
	fails(t, full, "save", api.StackOverflow)
	full.States = make([]api.Graphics, 20)
	fails(t, full, "save", api.LimitCheck)
	full.States, full.Saves = nil, make([]api.Snap, 10)
	fails(t, full, "save", api.LimitCheck)
}

func TestNewerObjects(t *testing.T) {
	saved := do(t, base(), "save")
	text := saved
	text.Heap = append(append([]api.Cell{}, saved.Heap...), api.Cell{Kind: api.CString, Bytes: "x"}, api.Cell{Kind: api.CDict, Max: 1})
	newString, newDict := api.Obj{Kind: api.KString, Ref: 10, Len: 1}, api.Obj{Kind: api.KDict, Ref: 11}
	text.Ops = nil
	fails(t, push(text, newString, object(1)), "restore", api.InvalidRestore)
	do(t, push(text, api.Obj{Kind: api.KString, Ref: 9}, object(1)), "restore")
	text.Dicts = append(append([]api.Obj{}, text.Dicts...), newDict)
	fails(t, push(text, object(1)), "restore", api.InvalidRestore)
	if len(text.Heap) != 12 {
		t.Error("the heap")
	}
	// save pushes nothing behind the operands of the old state.
	s := base()
	s.Ops = make([]api.Obj, 1, 9)
	s.States, s.Saves = make([]api.Graphics, 1, 9), make([]api.Snap, 1, 9)
	a, b := s, s
	b.G.W = 5
	a, b = do(t, a, "save"), do(t, b, "save")
	if a.States[1].W != 64 || b.States[1].W != 5 {
		t.Error("two states share what was saved")
	}
}

// P19.3
func TestConsequences(t *testing.T) {
	r := rand.New(rand.NewSource(1))
	for range 200 {
		s := base()
		var history []api.State
		for range 12 {
			if len(history) < 8 && r.Intn(2) == 0 {
				history = append(history, s)
				s = do(t, s, "save")
				s.Ops = nil
			} else if len(history) > 0 && r.Intn(3) == 0 {
				k := r.Intn(len(history))
				s.Ops = []api.Obj{object(s.Saves[k].N)}
				later := s.Saves[k+1:]
				s = do(t, s, "restore")
				if was := history[k]; !reflect.DeepEqual(s.Heap, was.Heap) || !reflect.DeepEqual(s.G, was.G) || len(s.States) != len(was.States) || len(s.Saves) != len(was.Saves) {
					t.Fatal("restored otherwise")
				}
				for _, snap := range later {
					fails(t, push(s, object(snap.N)), "restore", api.InvalidRestore)
				}
				history = history[:k]
			} else {
				s.G.Flat = r.Int()
				s.Heap, _ = heap.PutBytes(s.Heap, api.Obj{Kind: api.KString, Ref: 9, Len: 3}, r.Intn(3), "x")
				s.Heap, _, _ = heap.New(s.Heap, api.Cell{Kind: api.CString})
			}
		}
	}
	// R1
	for _, states := range []int{-1, 0, 1, 5} {
		s := api.State{Ops: []api.Obj{object(-3)}, Saves: []api.Snap{{N: -3, States: states}}}
		fails(t, s, "restore", api.InvalidRestore)
		s.Ops = nil
		fails(t, s, "restore", api.StackUnderflow)
	}
}
