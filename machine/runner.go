package machine

import (
	"iter"
	"slices"

	"chase/api"
	"chase/dict"
	"chase/fault"
	"chase/heap"
	"chase/stack"
)

// runner executes a machine, whose execution stack is its own.
type runner struct {
	api.Machine
}

// step takes a step. What a frame does returns the command of an error.
func (r *runner) step() {
	n := len(r.Exec)
	if n == 0 {
		r.Status = api.MDone
		return
	}
	actions := [...]func(*runner) (api.Obj, api.Errno){
		api.FrProc:    (*runner).proc,
		api.FrText:    (*runner).text,
		api.FrObject:  (*runner).object,
		api.FrRepeat:  (*runner).repeat,
		api.FrLoop:    (*runner).loop,
		api.FrFor:     (*runner).forNumbers,
		api.FrForall:  (*runner).forall,
		api.FrStopped: (*runner).stopped,
	}
	raise := r.raise
	if command, e := actions[r.Exec[n-1].Kind](r); e != api.OK {
		raise(e, command)
	}
}

// raise reacts to an error.
func (r *runner) raise(e api.Errno, command api.Obj) {
	r.Err = e
	handler, ok := fault.Handler(r.State, e)
	if !ok || len(r.Exec) > api.MaxExec {
		r.end(api.MFailed)
		return
	}
	if len(r.State.Ops) > api.MaxOps-2 {
		r.gather()
	}
	if e := r.push(command); e != api.OK {
		r.end(api.MFailed)
		return
	}
	kind := api.FrObject
	if isProcedure(handler) && handler.Len > 0 {
		kind = api.FrProc
	}
	// This frame is pushed whatever the number of frames.
	r.Exec = append(r.Exec, api.Frame{Kind: kind, Body: handler})
}

// gather replaces the operands by an array of them, or by null if there is no room for it.
func (r *runner) gather() {
	all := api.Obj{Kind: api.KArray, Len: len(r.State.Ops)}
	h, ref, e := heap.New(r.State.Heap, api.Cell{Kind: api.CArray, Items: slices.Clone(r.State.Ops)})
	if e == api.OK {
		r.State.Heap, all.Ref = h, ref
	} else {
		all = api.Obj{}
	}
	r.State.Ops = []api.Obj{all}
}

// end ends the execution.
func (r *runner) end(status int) {
	r.Exec, r.Status = nil, status
}

// push pushes objects, or none if there is no room for all.
func (r *runner) push(l ...api.Obj) api.Errno {
	s, e := stack.Push(r.State, l...)
	if e == api.OK {
		r.State = s
	}
	return e
}

// enter pushes frames, or none if there is no room for all.
func (r *runner) enter(l ...api.Frame) api.Errno {
	if len(r.Exec)+len(l) > api.MaxExec {
		return api.ExecStackOverflow
	}
	r.Exec = append(r.Exec, l...)
	return api.OK
}

// leave removes the top frame.
func (r *runner) leave() {
	r.Exec = r.Exec[:len(r.Exec)-1]
}

// downwards yields the frames with their indices, the top one first.
func (r *runner) downwards() iter.Seq2[int, api.Frame] {
	return func(yield func(int, api.Frame) bool) {
		for i := len(r.Exec) - 1; i >= 0; i-- {
			if !yield(i, r.Exec[i]) {
				return
			}
		}
	}
}

func isProcedure(o api.Obj) bool {
	return o.Exec && (o.Kind == api.KArray || o.Kind == api.KPacked)
}

// call calls a procedure.
func (r *runner) call(proc api.Obj) api.Errno {
	if proc.Len == 0 {
		return api.OK
	}
	return r.enter(api.Frame{Kind: api.FrProc, Body: proc})
}

// execute executes an object.
func (r *runner) execute(x api.Obj) api.Errno {
	if x.Exec && x.Kind == api.KName {
		v, ok := dict.Lookup(r.State, literal(x.Name))
		if !ok {
			return api.Undefined
		}
		if v.Exec && v.Kind == api.KName {
			return r.enter(api.Frame{Kind: api.FrObject, Body: v})
		}
		x = v
	}
	if !x.Exec {
		return r.push(x)
	}
	switch x.Kind {
	case api.KOperator:
		return r.operate(x.Name)
	case api.KArray, api.KPacked:
		return r.call(x)
	case api.KString:
		s, e := heap.Bytes(r.State.Heap, x)
		if e != api.OK {
			return e
		}
		return r.enter(api.Frame{Kind: api.FrText, Text: s})
	case api.KFile:
		return r.executeFile(x)
	case api.KNull:
		return api.OK
	}
	return r.push(x)
}

// executeFile reads a file to its end, and executes what was read.
func (r *runner) executeFile(f api.Obj) api.Errno {
	if !heap.Fits(r.State.Heap, f) {
		return api.ErrArg
	}
	c := r.State.Heap[f.Ref]
	if c.Max != 1 {
		return api.IOError
	}
	if e := r.enter(api.Frame{Kind: api.FrText, Text: c.Bytes[c.At:]}); e != api.OK {
		return e
	}
	h := slices.Clone(r.State.Heap)
	h[f.Ref].At, h[f.Ref].Max = len(c.Bytes), 0
	r.State.Heap = h
	return api.OK
}
