package heap

import (
	"iter"

	"chase/api"
	"chase/object"
)

// objects yields the objects of a cell.
func objects(c api.Cell) iter.Seq[api.Obj] {
	return func(yield func(api.Obj) bool) {
		for _, l := range [...][]api.Obj{c.Items, c.Keys, c.Vals} {
			for _, o := range l {
				if !yield(o) {
					return
				}
			}
		}
	}
}

// inspected is a cell of a heap that is checked.
type inspected struct {
	memory
	api.Cell
}

// spare reports whether the fields that the kind does not use are zero.
func (c inspected) spare() bool {
	noBytes, noItems := c.Bytes == "", len(c.Items) == 0
	noPairs := len(c.Keys) == 0 && len(c.Vals) == 0
	switch c.Kind {
	case api.CString:
		return noItems && noPairs && c.Max == 0 && c.At == 0
	case api.CArray:
		return noBytes && noPairs && c.Max == 0 && c.At == 0
	case api.CDict:
		return noBytes && noItems && c.At == 0
	case api.CFile:
		return noItems && noPairs
	}
	return false
}

func (c inspected) withinLimits() bool {
	switch c.Kind {
	case api.CString:
		return len(c.Bytes) <= api.MaxString
	case api.CArray:
		return len(c.Items) <= api.MaxArray
	case api.CDict:
		return 0 <= c.Max && c.Max <= api.MaxDict && len(c.Keys) == len(c.Vals) && len(c.Keys) <= c.Max
	}
	return len(c.Bytes) <= api.MaxFile && 0 <= c.At && c.At <= len(c.Bytes) && (c.Max == 0 || c.Max == 1)
}

func (c inspected) fitting() bool {
	for o := range objects(c.Cell) {
		if !Fits(c.cells, o) {
			return false
		}
	}
	return true
}

// keyed reports whether the keys are keys, and different.
func (c inspected) keyed() bool {
	seen := map[api.Obj]bool{}
	for _, k := range c.Keys {
		if key, e := object.Key(k); e != api.OK || key != k || seen[k] {
			return false
		}
		seen[k] = true
	}
	return true
}

// Check returns ErrHeap for an invalid heap.
func Check(h []api.Cell) api.Errno {
	if Total(h) > api.MaxHeap {
		return api.ErrHeap
	}
	e := api.OK
cells:
	for _, c := range h {
		for _, holds := range [...]func(inspected) bool{inspected.spare, inspected.withinLimits, inspected.fitting, inspected.keyed} {
			if !holds(inspected{memory{h}, c}) {
				e = api.ErrHeap
				break cells
			}
		}
	}
	return e
}
