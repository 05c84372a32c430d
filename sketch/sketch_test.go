package sketch

import (
	"slices"
	"testing"

	"chase/api"
	"chase/heap"
)

func TestInverse(t *testing.T) {
	for _, text := range []string{
		"", "1 -2 2.5 /a b true false null mark", "(a\\(b) (x) exec", "[1 [2 (c)]] [] [1] exec", "[1 2] packed [1] packed exec",
		"<<>> <</a 1 2 (b)>> 3 spare", "(ab) file (cd) closed", "7 save add op /sub op 5 exec",
	} {
		s := Put(api.State{}, text)
		if got := Show(s); got != text || heap.Check(s.Heap) != api.OK {
			t.Errorf("%s: %s", text, got)
		}
	}
	s := Put(Put(api.State{}, "{1 a}"), "2")
	if got := Show(s); got != "[1 a] exec 2" {
		t.Error(got)
	}
	s.Heap[0].Items[0] = s.Ops[0]
	if got := Show(s); len(got) > 100 {
		t.Error(got)
	}
}

func TestPath(t *testing.T) {
	want := api.Path{
		{Kind: api.Move, P: [3]api.Point{{X: 1, Y: -2}}}, {Kind: api.Line, P: [3]api.Point{{X: 3, Y: 4}}},
		{Kind: api.Curve, P: [3]api.Point{{X: 1, Y: 2}, {X: 3, Y: 4}, {X: 5, Y: 6}}}, {Kind: api.Close}, {Kind: 0},
	}
	if got := Path("M 1 -2, L 3 4, C 1 2 3 4 5 6, Z, Q"); !slices.Equal(got, want) || Path("") != nil {
		t.Error(got)
	}
}
