package stack

import "chase/api"

// hand rearranges the operands of a state.
type hand struct {
	api.State
}

// swap replaces the n highest operands, which are there, by others.
func (h hand) swap(n int, l ...api.Obj) (api.State, api.Errno) {
	s, e := Drop(h.State, n)
	if e != api.OK {
		return s, e
	}
	return Push(s, l...)
}

func (h hand) pop() (api.State, api.Errno) {
	return Drop(h.State, 1)
}

func (h hand) exch() (api.State, api.Errno) {
	l, e := Top(h.State, 2)
	if e != api.OK {
		return h.State, e
	}
	return h.swap(2, l[1], l[0])
}

func (h hand) dup() (api.State, api.Errno) {
	l, e := Top(h.State, 1)
	if e != api.OK {
		return h.State, e
	}
	return Push(h.State, l...)
}

// counted returns the numbers in the n highest operands, which must be ints, and as many objects below as the first one and more tell.
func (h hand) counted(n, more int) (numbers []int, objects []api.Obj, e api.Errno) {
	ints, e := Top(h.State, n)
	if e != api.OK {
		return nil, nil, e
	}
operands:
	for _, o := range ints {
		if o.Kind != api.KInt {
			e = api.TypeCheck
			break operands
		}
		numbers = append(numbers, o.N)
	}
	if e != api.OK {
		return nil, nil, e
	}
	count := numbers[0]
	if count < 0 {
		return nil, nil, api.RangeCheck
	}
	end := len(h.Ops) - n
	if count > end-more {
		return nil, nil, api.StackUnderflow
	}
	return numbers, h.Ops[end-count-more : end : end], api.OK
}

func (h hand) copy() (api.State, api.Errno) {
	_, l, e := h.counted(1, 0)
	if e != api.OK {
		return h.State, e
	}
	return h.swap(1, l...)
}

func (h hand) index() (api.State, api.Errno) {
	_, l, e := h.counted(1, 1)
	if e != api.OK {
		return h.State, e
	}
	return h.swap(1, l[0])
}

func (h hand) roll() (api.State, api.Errno) {
	numbers, l, e := h.counted(2, 0)
	if e != api.OK {
		return h.State, e
	}
	n := len(l)
	if n == 0 {
		return h.swap(2)
	}
	by := numbers[1] % n
	// The object that comes to the index i was at i - by.
	from := func(i int) int { return (i - by + n) % n }
	rolled := make([]api.Obj, n)
	for i := range rolled {
		rolled[i] = l[from(i)]
	}
	return h.swap(n+2, rolled...)
}

func (h hand) clear() (api.State, api.Errno) {
	return h.swap(len(h.Ops))
}

func (h hand) count() (api.State, api.Errno) {
	return Push(h.State, api.Obj{Kind: api.KInt, N: len(h.Ops)})
}

func (h hand) mark() (api.State, api.Errno) {
	return Push(h.State, api.Obj{Kind: api.KMark})
}

// above returns the number of objects above the topmost mark, or -1 if there is none.
func (h hand) above() int {
	for n := range h.Ops {
		if h.Ops[len(h.Ops)-1-n].Kind == api.KMark {
			return n
		}
	}
	return -1
}

func (h hand) cleartomark() (api.State, api.Errno) {
	n := h.above()
	if n < 0 {
		return h.State, api.UnmatchedMark
	}
	return Drop(h.State, n+1)
}

func (h hand) counttomark() (api.State, api.Errno) {
	n := h.above()
	if n < 0 {
		return h.State, api.UnmatchedMark
	}
	return Push(h.State, api.Obj{Kind: api.KInt, N: n})
}
