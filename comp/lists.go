package comp

import (
	"strings"

	"chase/api"
	"chase/heap"
)

func (b builder) length() (api.State, api.Errno) {
	l, e := b.operands(lists | names)
	if e != api.OK {
		return b.State, e
	}
	n, e := heap.Len(b.Heap, l[0])
	if e != api.OK {
		return b.State, e
	}
	return b.replace(1, api.Obj{Kind: api.KInt, N: n})
}

// element returns the element of a list with the index i.
func (b builder) element(o api.Obj, i int) (api.Obj, api.Errno) {
	one, e := heap.Interval(o, i, 1)
	if e != api.OK {
		return api.Obj{}, e
	}
	if texts.have(o) {
		s, e := heap.Bytes(b.Heap, one)
		if e != api.OK {
			return api.Obj{}, e
		}
		return api.Obj{Kind: api.KInt, N: int(s[0])}, api.OK
	}
	l, e := heap.Items(b.Heap, one)
	if e != api.OK {
		return api.Obj{}, e
	}
	return l[0], api.OK
}

func (b builder) get() (api.State, api.Errno) {
	l, e := b.operands(lists, ints)
	if e != api.OK {
		return b.State, e
	}
	o, e := b.element(l[0], l[1].N)
	if e != api.OK {
		return b.State, e
	}
	return b.replace(2, o)
}

func (b builder) put() (api.State, api.Errno) {
	l, e := b.operands(lists, ints, anyKind)
	if e != api.OK {
		return b.State, e
	}
	list, i, x := l[0], l[1].N, l[2]
	if arrays.have(list) {
		b.Heap, e = heap.PutItems(b.Heap, list, i, []api.Obj{x})
	} else if !ints.have(x) {
		e = api.TypeCheck
	} else if x.N < 0 || x.N > 255 {
		e = api.RangeCheck
	} else {
		b.Heap, e = heap.PutBytes(b.Heap, list, i, string([]byte{byte(x.N)}))
	}
	if e != api.OK {
		return b.State, e
	}
	return b.replace(3)
}

func (b builder) getinterval() (api.State, api.Errno) {
	l, e := b.operands(lists, ints, ints)
	if e != api.OK {
		return b.State, e
	}
	part, e := heap.Interval(l[0], l[1].N, l[2].N)
	if e != api.OK {
		return b.State, e
	}
	return b.replace(3, part)
}

// fill returns the heap in which what from contains is put into a list of the same kind.
func (b builder) fill(list api.Obj, at int, from api.Obj) ([]api.Cell, api.Errno) {
	if texts.have(list) {
		s, e := heap.Bytes(b.Heap, from)
		if e != api.OK {
			return nil, e
		}
		return heap.PutBytes(b.Heap, list, at, s)
	}
	l, e := heap.Items(b.Heap, from)
	if e != api.OK {
		return nil, e
	}
	return heap.PutItems(b.Heap, list, at, l)
}

func (b builder) putinterval() (api.State, api.Errno) {
	l, e := b.operands(lists, ints, lists)
	if e != api.OK {
		return b.State, e
	}
	if !alike(l[0], l[2]) {
		return b.State, api.TypeCheck
	}
	b.Heap, e = b.fill(l[0], l[1].N, l[2])
	if e != api.OK {
		return b.State, e
	}
	return b.replace(3)
}

func (b builder) copy() (api.State, api.Errno) {
	l, e := b.operands(lists, lists)
	if e != api.OK {
		return b.State, e
	}
	if !alike(l[0], l[1]) {
		return b.State, api.TypeCheck
	}
	b.Heap, e = b.fill(l[1], 0, l[0])
	if e != api.OK {
		return b.State, e
	}
	part, e := heap.Interval(l[1], 0, l[0].Len)
	if e != api.OK {
		return b.State, e
	}
	return b.replace(2, part)
}

func (b builder) aload() (api.State, api.Errno) {
	l, e := b.operands(arrays)
	if e != api.OK {
		return b.State, e
	}
	items, e := heap.Items(b.Heap, l[0])
	if e != api.OK {
		return b.State, e
	}
	return b.replace(1, append(items[:len(items):len(items)], l[0])...)
}

func (b builder) astore() (api.State, api.Errno) {
	l, e := b.operands(arrays)
	if e != api.OK {
		return b.State, e
	}
	list := l[0]
	if list.Kind == api.KPacked {
		return b.State, api.InvalidAccess
	}
	end := len(b.Ops) - 1
	if list.Len > end {
		return b.State, api.StackUnderflow
	}
	b.Heap, e = heap.PutItems(b.Heap, list, 0, b.Ops[end-list.Len:end:end])
	if e != api.OK {
		return b.State, e
	}
	return b.replace(list.Len+1, list)
}

// parts returns the intervals of a string that end at the indices, in order, and the rest.
func parts(o api.Obj, ends ...int) ([]api.Obj, api.Errno) {
	var l []api.Obj
	from := 0
	for _, end := range append(ends, o.Len) {
		part, e := heap.Interval(o, from, end-from)
		if e != api.OK {
			return nil, e
		}
		l = append(l, part)
		from = end
	}
	return l, api.OK
}

// strings returns the two upper operands, strings, and what they contain.
func (b builder) strings() (l []api.Obj, s, t string, e api.Errno) {
	l, e = b.operands(texts, texts)
	if e != api.OK {
		return nil, "", "", e
	}
	s, e = heap.Bytes(b.Heap, l[0])
	if e != api.OK {
		return nil, "", "", e
	}
	t, e = heap.Bytes(b.Heap, l[1])
	return l, s, t, e
}

func (b builder) search() (api.State, api.Errno) {
	l, s, t, e := b.strings()
	if e != api.OK {
		return b.State, e
	}
	i := strings.Index(s, t)
	if i < 0 {
		return b.replace(2, l[0], api.Obj{Kind: api.KBool})
	}
	p, e := parts(l[0], i, i+len(t))
	if e != api.OK {
		return b.State, e
	}
	return b.replace(2, p[2], p[1], p[0], api.Obj{Kind: api.KBool, N: 1})
}

func (b builder) anchorsearch() (api.State, api.Errno) {
	l, s, t, e := b.strings()
	if e != api.OK {
		return b.State, e
	}
	if !strings.HasPrefix(s, t) {
		return b.replace(2, l[0], api.Obj{Kind: api.KBool})
	}
	p, e := parts(l[0], len(t))
	if e != api.OK {
		return b.State, e
	}
	return b.replace(2, p[1], p[0], api.Obj{Kind: api.KBool, N: 1})
}
