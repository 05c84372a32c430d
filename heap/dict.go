package heap

import (
	"slices"

	"chase/api"
	"chase/object"
)

// Key returns the key of an object in the heap.
func Key(h []api.Cell, o api.Obj) (api.Obj, api.Errno) {
	if !Fits(h, o) {
		return api.Obj{}, api.ErrArg
	}
	if o.Kind != api.KString {
		return object.Key(o)
	}
	s, _ := Bytes(h, o)
	if len(s) > api.MaxName {
		return api.Obj{}, api.RangeCheck
	}
	return object.Name(s, false)
}

// store is a dictionary of a heap.
type store struct {
	memory
	ref int
	api.Cell
}

func open(h []api.Cell, d api.Obj) (store, api.Errno) {
	if e := fit(h, d, api.KDict); e != api.OK {
		return store{}, e
	}
	return store{memory{h}, d.Ref, h[d.Ref]}, api.OK
}

// place returns the place of a key, or -1.
func (s store) place(key api.Obj) int {
	for i := range min(len(s.Keys), len(s.Vals)) {
		if s.Keys[i] == key {
			return i
		}
	}
	return -1
}

// changed returns the heap with another list of keys and values.
func (s store) changed(keys, vals []api.Obj) []api.Cell {
	c := s.Cell
	c.Keys, c.Vals = keys, vals
	return replace(s.cells, s.ref, c)
}

// Find returns the value of a key, and whether there is one.
func Find(h []api.Cell, d, key api.Obj) (api.Obj, bool, api.Errno) {
	s, e := open(h, d)
	if e != api.OK {
		return api.Obj{}, false, e
	}
	i := s.place(key)
	if i < 0 {
		return api.Obj{}, false, api.OK
	}
	return s.Vals[i], true, api.OK
}

// Store returns the heap in which a key has a value.
func Store(h []api.Cell, d, key, val api.Obj) ([]api.Cell, api.Errno) {
	s, e := open(h, d)
	if e != api.OK {
		return nil, e
	}
	if i := s.place(key); i >= 0 {
		return s.changed(s.Keys, replace(s.Vals, i, val)), api.OK
	}
	if len(s.Keys) >= s.Max {
		return nil, api.DictFull
	}
	return s.changed(append(slices.Clip(s.Keys), key), append(slices.Clip(s.Vals), val)), api.OK
}

// Remove returns the heap without a key.
func Remove(h []api.Cell, d, key api.Obj) ([]api.Cell, api.Errno) {
	s, e := open(h, d)
	if e != api.OK {
		return nil, e
	}
	i := s.place(key)
	if i < 0 {
		return h, api.OK
	}
	return s.changed(slices.Delete(slices.Clone(s.Keys), i, i+1), slices.Delete(slices.Clone(s.Vals), i, i+1)), api.OK
}
