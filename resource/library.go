package resource

import (
	"chase/api"
	"chase/heap"
	"chase/stack"
)

// rule says which objects suit a category.
type rule struct {
	category string
	suits    func(api.Obj) bool
}

func isDict(o api.Obj) bool  { return o.Kind == api.KDict }
func isArray(o api.Obj) bool { return o.Kind == api.KArray || o.Kind == api.KPacked }

// suits reports whether an object suits a category.
func suits(category string, o api.Obj) bool {
	rules := [...]rule{{"Font", isDict}, {"Pattern", isDict}, {"Form", isDict}, {"Encoding", isArray}}
	ok := true
search:
	for _, r := range rules {
		if r.category == category {
			ok = r.suits(o)
			break search
		}
	}
	return ok
}

// library is a state whose resources are used.
type library struct {
	api.State
}

// shelf is a category with its dictionary.
type shelf struct {
	category string
	object   api.Obj
}

// find returns the value of a key in the dictionary.
func (d shelf) find(h []api.Cell, key api.Obj) (api.Obj, api.Errno) {
	x, ok, e := heap.Find(h, d.object, key)
	if e == api.OK && !ok {
		e = api.UndefinedResource
	}
	return x, e
}

// shelf returns the category with a name.
func (b library) shelf(name api.Obj) (shelf, api.Errno) {
	d, ok, e := heap.Find(b.Heap, api.Obj{Kind: api.KDict, Ref: api.RefCategories}, name)
	if e != api.OK || !ok || d.Kind != api.KDict {
		return shelf{}, api.Undefined
	}
	return shelf{name.Name, d}, api.OK
}

// key returns the key of an object, for a function that asks for several.
func (b library) key(o api.Obj) (api.Obj, api.Errno) {
	return heap.Key(b.Heap, o)
}

// operands returns the n highest operands, of which the lowest one is a key and the top one names a category, the category, and the key.
func (b library) operands(n int) ([]api.Obj, shelf, api.Obj, api.Errno) {
	l, e := stack.Top(b.State, n)
	if e != api.OK {
		return nil, shelf{}, api.Obj{}, e
	}
	name := l[n-1]
	if l[0].Kind == api.KNull || name.Kind != api.KName && name.Kind != api.KString {
		return nil, shelf{}, api.Obj{}, api.TypeCheck
	}
	keys, e := both(b.key, l[0], name)
	if e != api.OK {
		return nil, shelf{}, api.Obj{}, e
	}
	d, e := b.shelf(keys[1])
	return l, d, keys[0], e
}

// both asks for two objects, the first one first.
func both(ask func(api.Obj) (api.Obj, api.Errno), a, b api.Obj) ([2]api.Obj, api.Errno) {
	x, e := ask(a)
	if e != api.OK {
		return [2]api.Obj{}, e
	}
	y, e := ask(b)
	return [2]api.Obj{x, y}, e
}

// replace replaces the n highest operands by others, if there was no error.
func (b library) replace(n int, e api.Errno, l ...api.Obj) (api.State, api.Errno) {
	if e != api.OK {
		return b.State, e
	}
	s, e := stack.Drop(b.State, n)
	if e != api.OK {
		return s, e
	}
	return stack.Push(s, l...)
}
