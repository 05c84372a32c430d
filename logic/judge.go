package logic

import (
	"strings"

	"chase/api"
	"chase/heap"
	"chase/object"
	"chase/stack"
)

// judge compares and converts operands of a state.
type judge struct {
	api.State
}

// kinds is a set of kinds, a bit for each.
type kinds int

const (
	booleans kinds = 1 << api.KBool
	ints     kinds = 1 << api.KInt
	numbers  kinds = ints | 1<<api.KReal
	texts    kinds = 1 << api.KString
	anyKind  kinds = 1<<api.Kinds - 1
)

func (k kinds) have(o api.Obj) bool {
	return 0 <= o.Kind && o.Kind < api.Kinds && k>>o.Kind&1 == 1
}

// operands returns the highest operands, one of each of the sets of kinds.
func (j judge) operands(sets ...kinds) ([]api.Obj, api.Errno) {
	l, e := stack.Top(j.State, len(sets))
	if e != api.OK {
		return nil, e
	}
check:
	for i, o := range l {
		if !sets[i].have(o) {
			l, e = nil, api.TypeCheck
			break check
		}
	}
	return l, e
}

func (j judge) push(o api.Obj) (api.State, api.Errno) {
	return stack.Push(j.State, o)
}

// replace replaces the n highest operands by a result.
func (j judge) replace(n int, result api.Obj) (api.State, api.Errno) {
	s, e := stack.Drop(j.State, n)
	if e != api.OK {
		return s, e
	}
	return stack.Push(s, result)
}

func (j judge) equality(want bool) (api.State, api.Errno) {
	l, e := j.operands(anyKind, anyKind)
	if e != api.OK {
		return j.State, e
	}
	return j.replace(2, object.Bool(heap.Equal(j.Heap, l[0], l[1]) == want))
}

// order compares two numbers or two strings: less than 0, 0, or greater than 0.
func (j judge) order() (int, api.Errno) {
	l, e := j.operands(numbers|texts, numbers|texts)
	if e != api.OK {
		return 0, e
	}
	if numbers.have(l[0]) {
		return object.Compare(l[0], l[1])
	}
	a, e := heap.Bytes(j.Heap, l[0])
	if e != api.OK {
		return 0, e
	}
	b, e := heap.Bytes(j.Heap, l[1])
	if e != api.OK {
		return 0, e
	}
	return strings.Compare(a, b), api.OK
}

// decide asks for a number, and replaces both operands by what it means.
func (j judge) decide(ask func() (int, api.Errno), means func(int) bool) (api.State, api.Errno) {
	n, e := ask()
	if e != api.OK {
		return j.State, e
	}
	return j.replace(2, object.Bool(means(n)))
}

// combine applies f to the bits of two booleans or two ints.
func (j judge) combine(f func(a, b int) int) (api.State, api.Errno) {
	l, e := j.operands(booleans|ints, booleans|ints)
	if e != api.OK {
		return j.State, e
	}
	if l[0].Kind != l[1].Kind {
		return j.State, api.TypeCheck
	}
	return j.replace(2, api.Obj{Kind: l[0].Kind, N: f(l[0].N, l[1].N)})
}

func (j judge) not() (api.State, api.Errno) {
	l, e := j.operands(booleans | ints)
	if e != api.OK {
		return j.State, e
	}
	if l[0].Kind == api.KBool {
		return j.replace(1, object.Bool(l[0].N == 0))
	}
	return j.replace(1, api.Obj{Kind: api.KInt, N: ^l[0].N})
}

func (j judge) bitshift() (api.State, api.Errno) {
	l, e := j.operands(ints, ints)
	if e != api.OK {
		return j.State, e
	}
	bits, by := uint32(l[0].N), l[1].N
	if by >= 0 {
		bits <<= uint(by)
	} else {
		bits >>= uint(-by)
	}
	return j.replace(2, api.Obj{Kind: api.KInt, N: int(int32(bits))})
}
