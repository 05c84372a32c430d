package machine

import (
	"slices"

	"chase/api"
	"chase/arith"
	"chase/comp"
	"chase/dict"
	"chase/fault"
	"chase/file"
	"chase/gstate"
	"chase/logic"
	"chase/media"
	"chase/resource"
	"chase/save"
	"chase/stack"
	"chase/text"
)

// layer is a layer with operators.
type layer struct {
	ops func() []string
	do  func(api.State, string) (api.State, api.Errno)
}

// layers returns all layers with operators, in the order of their names.
func layers() []layer {
	return []layer{
		{stack.Ops, stack.Do},
		{arith.Ops, arith.Do},
		{logic.Ops, logic.Do},
		{comp.Ops, comp.Do},
		{dict.Ops, dict.Do},
		{file.Ops, file.Do},
		{resource.Ops, resource.Do},
		{save.Ops, save.Do},
		{media.Ops, media.Do},
		{gstate.Ops, gstate.Do},
		{text.Ops, text.Do},
		{fault.Ops, fault.Do},
	}
}

// kindAt returns the kind of the operand with a number, counted from 1, the top one; -1 if there is none.
func (r *runner) kindAt(n int) int {
	if i := len(r.State.Ops) - n; i >= 0 {
		return r.State.Ops[i].Kind
	}
	return -1
}

// shared returns what executes an operator that several layers have; it depends on the operands.
func (r *runner) shared(op string) (func(api.State, string) (api.State, api.Errno), bool) {
	var decisive int
	switch op {
	case "length", "copy":
		decisive = 1
	case "get":
		decisive = 2
	case "put":
		decisive = 3
	default:
		return nil, false
	}
	kind := r.kindAt(decisive)
	switch {
	case kind == api.KDict:
		return dict.Do, true
	case op == "copy" && (kind == api.KInt || kind < 0):
		return stack.Do, true
	}
	return comp.Do, true
}

// listed returns what executes an operator of the layer that lists it.
func listed(op string) (func(api.State, string) (api.State, api.Errno), bool) {
	for _, l := range layers() {
		if slices.Contains(l.ops(), op) {
			return l.do, true
		}
	}
	return nil, false
}

// operate executes an operator.
func (r *runner) operate(op string) api.Errno {
	if control, ok := controls()[op]; ok {
		before := r.Machine
		e := control(r)
		if e != api.OK {
			r.Machine = before
		}
		return e
	}
	do, ok := r.shared(op)
	if !ok {
		do, ok = listed(op)
	}
	switch {
	case !ok:
		return api.Undefined
	case op == "restore" && r.needed():
		return api.InvalidRestore
	}
	s, e := do(r.State, op)
	if e == api.OK {
		r.State = s
	}
	return e
}

// needed reports whether the top operand is a save object, and a frame needs what is newer than that save.
func (r *runner) needed() bool {
	n := len(r.State.Ops)
	if n == 0 || r.State.Ops[n-1].Kind != api.KSave {
		return false
	}
	cells, ok := save.Cells(r.State, r.State.Ops[n-1].N)
	if !ok {
		return false
	}
	for _, f := range r.downwards() {
		for _, o := range append(f.List[:len(f.List):len(f.List)], f.Body) {
			if save.Newer(o, cells) {
				return true
			}
		}
	}
	return false
}
