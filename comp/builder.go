package comp

import (
	"chase/api"
	"chase/heap"
	"chase/stack"
)

// builder builds lists, and takes them apart, on the operand stack of a state.
type builder struct {
	api.State
}

// kinds is a set of kinds, a bit for each.
type kinds int

const (
	ints    kinds = 1 << api.KInt
	names   kinds = 1 << api.KName
	texts   kinds = 1 << api.KString
	arrays  kinds = 1<<api.KArray | 1<<api.KPacked
	lists   kinds = texts | arrays
	anyKind kinds = 1<<api.Kinds - 1
)

func (k kinds) have(o api.Obj) bool {
	return 0 <= o.Kind && o.Kind < api.Kinds && k>>o.Kind&1 == 1
}

// alike reports whether both are strings, or both arrays.
func alike(a, b api.Obj) bool {
	return texts.have(a) == texts.have(b)
}

// operands returns the highest operands, one of each of the sets of kinds.
func (b builder) operands(sets ...kinds) ([]api.Obj, api.Errno) {
	l, e := stack.Top(b.State, len(sets))
	if e != api.OK {
		return nil, e
	}
check:
	for i, o := range l {
		if !sets[i].have(o) {
			l, e = nil, api.TypeCheck
			break check
		}
	}
	return l, e
}

// replace replaces the n highest operands by others.
func (b builder) replace(n int, l ...api.Obj) (api.State, api.Errno) {
	s, e := stack.Drop(b.State, n)
	if e != api.OK {
		return s, e
	}
	return stack.Push(s, l...)
}

// create replaces the highest operands by an object of a kind that refers to a new cell of n elements.
func (b builder) create(drop, kind, n int, c api.Cell) (api.State, api.Errno) {
	h, ref, e := heap.New(b.Heap, c)
	if e != api.OK {
		return b.State, e
	}
	b.Heap = h
	return b.replace(drop, api.Obj{Kind: kind, Ref: ref, Len: n})
}

// elements makes n elements.
func elements[T any](n int, element func(i int) T) []T {
	l := make([]T, n)
	for i := range l {
		l[i] = element(i)
	}
	return l
}

// count returns the top operand, an int that is not negative.
func (b builder) count() (int, api.Errno) {
	l, e := b.operands(ints)
	if e != api.OK {
		return 0, e
	}
	if l[0].N < 0 {
		return 0, api.RangeCheck
	}
	return l[0].N, api.OK
}

func (b builder) string() (api.State, api.Errno) {
	n, e := b.count()
	if e != api.OK {
		return b.State, e
	}
	if n > api.MaxString {
		return b.State, api.LimitCheck
	}
	zeros := elements(n, func(int) byte { return 0 })
	return b.create(1, api.KString, n, api.Cell{Kind: api.CString, Bytes: string(zeros)})
}

func (b builder) array() (api.State, api.Errno) {
	n, e := b.count()
	if e != api.OK {
		return b.State, e
	}
	if n > api.MaxArray {
		return b.State, api.LimitCheck
	}
	nulls := elements(n, func(int) api.Obj { return api.Obj{} })
	return b.create(1, api.KArray, n, api.Cell{Kind: api.CArray, Items: nulls})
}

// gather makes an array of a kind of the n operands below the above highest ones.
func (b builder) gather(kind, n, above, drop int) (api.State, api.Errno) {
	end := len(b.Ops) - above
	if n > end {
		return b.State, api.StackUnderflow
	}
	if n > api.MaxArray {
		return b.State, api.LimitCheck
	}
	items := make([]api.Obj, n)
	copy(items, b.Ops[end-n:end:end])
	return b.create(drop, kind, n, api.Cell{Kind: api.CArray, Items: items})
}

func (b builder) packedarray() (api.State, api.Errno) {
	n, e := b.count()
	if e != api.OK {
		return b.State, e
	}
	return b.gather(api.KPacked, n, 1, n+1)
}

func (b builder) open() (api.State, api.Errno) {
	return b.replace(0, api.Obj{Kind: api.KMark})
}

func (b builder) close() (api.State, api.Errno) {
	for n := range b.Ops {
		if b.Ops[len(b.Ops)-1-n].Kind == api.KMark {
			return b.gather(api.KArray, n, 0, n+1)
		}
	}
	return b.State, api.UnmatchedMark
}
