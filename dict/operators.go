package dict

import (
	"chase/api"
	"chase/heap"
)

// The two lowest dictionaries are never removed.
const fixed = 2

func (c scope) dict() (api.State, api.Errno) {
	l, e := c.operands(ints())
	if e != api.OK {
		return c.State, e
	}
	n := l[0].N
	switch {
	case n < 0:
		return c.State, api.RangeCheck
	case n > api.MaxDict:
		return c.State, api.LimitCheck
	}
	return c.create(1, n)
}

func (c scope) begin() (api.State, api.Errno) {
	l, e := c.operands(dictionaries())
	if e != api.OK {
		return c.State, e
	}
	n := len(c.Dicts)
	if n >= api.MaxDicts {
		return c.State, api.DictStackOverflow
	}
	dicts := make([]api.Obj, n+1)
	copy(dicts, c.Dicts)
	dicts[n] = l[0]
	c.Dicts = dicts
	return c.replace(1)
}

func (c scope) end() (api.State, api.Errno) {
	n := len(c.Dicts) - 1
	if n < fixed {
		return c.State, api.DictStackUnderflow
	}
	c.Dicts = c.Dicts[:n:n]
	return c.State, api.OK
}

func (c scope) def() (api.State, api.Errno) {
	l, key, e := c.keyed(0, keys(), anyKind())
	if e != api.OK {
		return c.State, e
	}
	return c.storing(c.current(), key, l[1], 2)
}

func (c scope) load() (api.State, api.Errno) {
	_, key, e := c.keyed(0, keys())
	if e != api.OK {
		return c.State, e
	}
	_, val, ok := c.find(key)
	if !ok {
		return c.State, api.Undefined
	}
	return c.replace(1, val)
}

func (c scope) store() (api.State, api.Errno) {
	l, key, e := c.keyed(0, keys(), anyKind())
	if e != api.OK {
		return c.State, e
	}
	d, _, ok := c.find(key)
	if !ok {
		d = c.current()
	}
	return c.storing(d, key, l[1], 2)
}

func (c scope) known() (api.State, api.Errno) {
	l, key, e := c.keyed(1, dictionaries(), keys())
	if e != api.OK {
		return c.State, e
	}
	_, ok, e := heap.Find(c.Heap, l[0], key)
	if e != api.OK {
		return c.State, e
	}
	return c.replace(2, truth(ok))
}

func (c scope) undef() (api.State, api.Errno) {
	l, key, e := c.keyed(1, dictionaries(), keys())
	if e != api.OK {
		return c.State, e
	}
	h, e := heap.Remove(c.Heap, l[0], key)
	if e != api.OK {
		return c.State, e
	}
	c.Heap = h
	return c.replace(2)
}

func (c scope) where() (api.State, api.Errno) {
	_, key, e := c.keyed(0, keys())
	if e != api.OK {
		return c.State, e
	}
	d, _, ok := c.find(key)
	if !ok {
		return c.replace(1, truth(false))
	}
	return c.replace(1, d, truth(true))
}

func (c scope) currentdict() (api.State, api.Errno) {
	return c.replace(0, c.current())
}

func (c scope) countdictstack() (api.State, api.Errno) {
	return c.replace(0, number(len(c.Dicts)))
}

func (c scope) maxlength() (api.State, api.Errno) {
	return c.measure(func(cell api.Cell) int { return cell.Max })
}

func (c scope) length() (api.State, api.Errno) {
	return c.measure(func(cell api.Cell) int { return len(cell.Keys) })
}

// measure replaces a dictionary by a number that its cell tells.
func (c scope) measure(f func(api.Cell) int) (api.State, api.Errno) {
	l, e := c.operands(dictionaries())
	if e != api.OK {
		return c.State, e
	}
	cell, e := c.cell(l[0])
	if e != api.OK {
		return c.State, e
	}
	return c.replace(1, number(f(cell)))
}

func (c scope) get() (api.State, api.Errno) {
	l, key, e := c.keyed(1, dictionaries(), keys())
	if e != api.OK {
		return c.State, e
	}
	val, ok, e := heap.Find(c.Heap, l[0], key)
	if e != api.OK {
		return c.State, e
	}
	if !ok {
		return c.State, api.Undefined
	}
	return c.replace(2, val)
}

func (c scope) put() (api.State, api.Errno) {
	l, key, e := c.keyed(1, dictionaries(), keys(), anyKind())
	if e != api.OK {
		return c.State, e
	}
	return c.storing(l[0], key, l[2], 3)
}

func (c scope) copy() (api.State, api.Errno) {
	l, e := c.operands(dictionaries(), dictionaries())
	if e != api.OK {
		return c.State, e
	}
	from, e := c.cell(l[0])
	if e != api.OK {
		return c.State, e
	}
	var pairs []api.Obj
	for i := range min(len(from.Keys), len(from.Vals)) {
		pairs = append(pairs, from.Keys[i], from.Vals[i])
	}
	if e := c.fill(l[1], pairs); e != api.OK {
		return c.State, e
	}
	return c.replace(2, l[1])
}

func (c scope) open() (api.State, api.Errno) {
	return c.replace(0, api.Obj{Kind: api.KMark})
}

func (c scope) close() (api.State, api.Errno) {
	for n := range c.Ops {
		if i := len(c.Ops) - 1 - n; c.Ops[i].Kind == api.KMark {
			return c.gather(c.Ops[i+1:])
		}
	}
	return c.State, api.UnmatchedMark
}

// gather replaces a mark and the pairs above it by a new dictionary.
func (c scope) gather(l []api.Obj) (api.State, api.Errno) {
	if len(l)%2 != 0 {
		return c.State, api.RangeCheck
	}
	for i := 0; i < len(l); i += 2 {
		if !keys().have(l[i]) {
			return c.State, api.TypeCheck
		}
	}
	var pairs []api.Obj
	for i := 0; i < len(l); i += 2 {
		key, e := heap.Key(c.Heap, l[i])
		if e != api.OK {
			return c.State, e
		}
		pairs = append(pairs, key, l[i+1])
	}
	return c.create(len(l)+1, len(l)/2, pairs...)
}
