package dict

import (
	"iter"

	"chase/api"
	"chase/heap"
	"chase/stack"
)

// scope is a state in whose dictionaries keys are looked up.
type scope struct {
	api.State
}

// kinds are those from one to another.
type kinds struct {
	from, to int
}

func (k kinds) have(o api.Obj) bool {
	return k == kinds{o.Kind, o.Kind} || k.from <= o.Kind && o.Kind <= k.to
}

func ints() kinds         { return kinds{api.KInt, api.KInt} }
func dictionaries() kinds { return kinds{api.KDict, api.KDict} }
func anyKind() kinds      { return kinds{api.KNull, api.Kinds - 1} }

// keys are all kinds but that of null, which is the first one.
func keys() kinds { return kinds{api.KNull + 1, api.Kinds - 1} }

// operands returns the highest operands, of these kinds.
func (c scope) operands(wanted ...kinds) ([]api.Obj, api.Errno) {
	l, e := stack.Top(c.State, len(wanted))
	if e != api.OK {
		return nil, e
	}
	for i, o := range l {
		if !wanted[i].have(o) {
			return nil, api.TypeCheck
		}
	}
	return l, api.OK
}

// keyed returns the highest operands, of these kinds, and the key that the one with the index at denotes.
func (c scope) keyed(at int, wanted ...kinds) ([]api.Obj, api.Obj, api.Errno) {
	l, e := c.operands(wanted...)
	if e != api.OK {
		return nil, api.Obj{}, e
	}
	key, e := heap.Key(c.Heap, l[at])
	return l, key, e
}

// replace replaces the n highest operands by others.
func (c scope) replace(n int, l ...api.Obj) (api.State, api.Errno) {
	s, e := stack.Drop(c.State, n)
	if e != api.OK {
		return s, e
	}
	return stack.Push(s, l...)
}

func truth(b bool) api.Obj {
	if b {
		return api.Obj{Kind: api.KBool, N: 1}
	}
	return api.Obj{Kind: api.KBool}
}

func number(n int) api.Obj {
	return api.Obj{Kind: api.KInt, N: n}
}

// downwards yields the dictionaries of the dictionary stack, the topmost one first.
func (c scope) downwards() iter.Seq[api.Obj] {
	return func(yield func(api.Obj) bool) {
		for i := len(c.Dicts) - 1; i >= 0; i-- {
			if !yield(c.Dicts[i]) {
				return
			}
		}
	}
}

// find returns the key's dictionary and its value there, if there is one.
func (c scope) find(key api.Obj) (d, val api.Obj, found bool) {
search:
	for place := range c.downwards() {
		x, ok, e := heap.Find(c.Heap, place, key)
		if e == api.OK && ok {
			d, val, found = place, x, true
			break search
		}
	}
	return d, val, found
}

// current returns the current dictionary.
func (c scope) current() api.Obj {
	if len(c.Dicts) == 0 {
		return api.Obj{}
	}
	return c.Dicts[len(c.Dicts)-1]
}

// cell returns the cell of a dictionary.
func (c scope) cell(d api.Obj) (api.Cell, api.Errno) {
	if !heap.Fits(c.Heap, d) {
		return api.Cell{}, api.ErrArg
	}
	return c.Heap[d.Ref], api.OK
}

// storing stores a value in a dictionary, and removes n operands.
func (c scope) storing(d, key, val api.Obj, n int) (api.State, api.Errno) {
	h, e := heap.Store(c.Heap, d, key, val)
	if e != api.OK {
		return c.State, e
	}
	c.Heap = h
	return c.replace(n)
}

// create replaces n operands by a new dictionary, into which pairs are stored.
func (c scope) create(n, room int, pairs ...api.Obj) (api.State, api.Errno) {
	h, ref, e := heap.New(c.Heap, api.Cell{Kind: api.CDict, Max: room})
	if e != api.OK {
		return c.State, e
	}
	c.Heap = h
	d := api.Obj{Kind: api.KDict, Ref: ref}
	if e := c.fill(d, pairs); e != api.OK {
		return c.State, e
	}
	return c.replace(n, d)
}

// fill stores keys and values, in turns, in a dictionary.
func (c *scope) fill(d api.Obj, pairs []api.Obj) api.Errno {
	put := func(key, val api.Obj) api.Errno {
		h, e := heap.Store(c.Heap, d, key, val)
		if e == api.OK {
			c.Heap = h
		}
		return e
	}
	for i := 0; i+1 < len(pairs); i += 2 {
		if e := put(pairs[i], pairs[i+1]); e != api.OK {
			return e
		}
	}
	return api.OK
}
