package machine

import (
	"slices"

	"chase/api"
	"chase/dict"
	"chase/heap"
	"chase/object"
	"chase/stack"
)

// controlNames returns the names of the operators that change the execution stack, or read.
func controlNames() []string {
	return []string{"exec", "if", "ifelse", "repeat", "for", "loop", "forall", "exit", "stopped", "stop", "quit", "bind", "token", "countexecstack"}
}

// controls has these operators by their names.
func controls() map[string]func(*runner) api.Errno {
	return map[string]func(*runner) api.Errno{
		"exec": func(r *runner) api.Errno {
			l, e := r.take(isAny)
			if e != api.OK {
				return e
			}
			return r.enter(api.Frame{Kind: api.FrObject, Body: l[0]})
		},
		"if": func(r *runner) api.Errno {
			l, e := r.take(isBool, isProcedure)
			if e != api.OK || l[0].N == 0 {
				return e
			}
			return r.call(l[1])
		},
		"ifelse": func(r *runner) api.Errno {
			l, e := r.take(isBool, isProcedure, isProcedure)
			if e != api.OK {
				return e
			}
			if l[0].N == 0 {
				return r.call(l[2])
			}
			return r.call(l[1])
		},
		"loop": func(r *runner) api.Errno {
			l, e := r.take(isProcedure)
			if e != api.OK {
				return e
			}
			return r.enter(api.Frame{Kind: api.FrLoop, Body: l[0]})
		},
		"stopped": func(r *runner) api.Errno {
			l, e := r.take(isAny)
			if e != api.OK {
				return e
			}
			return r.enter(api.Frame{Kind: api.FrStopped}, api.Frame{Kind: api.FrObject, Body: l[0]})
		},
		"quit": func(r *runner) api.Errno {
			r.end(api.MQuit)
			return api.OK
		},
		"countexecstack": func(r *runner) api.Errno {
			return r.push(api.Obj{Kind: api.KInt, N: len(r.Exec)})
		},
		"repeat": (*runner).doRepeat,
		"for":    (*runner).doFor,
		"forall": (*runner).doForall,
		"exit":   (*runner).doExit,
		"stop":   (*runner).doStop,
		"bind":   (*runner).doBind,
		"token":  (*runner).doToken,
	}
}

func isAny(api.Obj) bool      { return true }
func isBool(o api.Obj) bool   { return o.Kind == api.KBool }
func isInt(o api.Obj) bool    { return o.Kind == api.KInt }
func isNumber(o api.Obj) bool { return o.Kind == api.KInt || o.Kind == api.KReal }
func isString(o api.Obj) bool { return o.Kind == api.KString }

func isList(o api.Obj) bool {
	return o.Kind == api.KString || o.Kind == api.KArray || o.Kind == api.KPacked || o.Kind == api.KDict
}

// take removes and returns the highest operands, each of which must suit.
func (r *runner) take(suits ...func(api.Obj) bool) ([]api.Obj, api.Errno) {
	l, e := stack.Top(r.State, len(suits))
	if e != api.OK {
		return nil, e
	}
	for i, o := range l {
		if !suits[i](o) {
			return nil, api.TypeCheck
		}
	}
	r.State, e = stack.Drop(r.State, len(suits))
	return l, e
}

func (r *runner) doRepeat() api.Errno {
	l, e := r.take(isInt, isProcedure)
	if e != api.OK {
		return e
	}
	if l[0].N < 0 {
		return api.RangeCheck
	}
	return r.enter(api.Frame{Kind: api.FrRepeat, Body: l[1], N: l[0].N})
}

func (r *runner) doFor() api.Errno {
	l, e := r.take(isNumber, isNumber, isNumber, isProcedure)
	if e != api.OK {
		return e
	}
	f := api.Frame{Kind: api.FrFor, Body: l[3]}
	var n [3]int
	for i, o := range l[:3] {
		n[i] = o.N
		f.Real = f.Real || o.Kind == api.KReal
	}
	if f.Real {
		for i, o := range l[:3] {
			x, e := object.ToReal(o)
			if e != api.OK {
				return e
			}
			n[i] = x.N
		}
	}
	f.N, f.Step, f.End = n[0], n[1], n[2]
	return r.enter(f)
}

// contents returns the objects with which forall executes a procedure.
func (r *runner) contents(o api.Obj) ([]api.Obj, api.Errno) {
	if o.Kind == api.KArray || o.Kind == api.KPacked {
		return heap.Items(r.State.Heap, o)
	}
	var out []api.Obj
	if o.Kind == api.KString {
		s, e := heap.Bytes(r.State.Heap, o)
		for i := range len(s) {
			out = append(out, api.Obj{Kind: api.KInt, N: int(s[i])})
		}
		return out, e
	}
	if !heap.Fits(r.State.Heap, o) {
		return nil, api.ErrArg
	}
	c := r.State.Heap[o.Ref]
	for i := range min(len(c.Keys), len(c.Vals)) {
		out = append(out, c.Keys[i], c.Vals[i])
	}
	return out, api.OK
}

func (r *runner) doForall() api.Errno {
	l, e := r.take(isList, isProcedure)
	if e != api.OK {
		return e
	}
	list, e := r.contents(l[0])
	if e != api.OK {
		return e
	}
	return r.enter(api.Frame{Kind: api.FrForall, Body: l[1], List: list, Pairs: l[0].Kind == api.KDict})
}

func (r *runner) doExit() api.Errno {
	e := api.InvalidExit
unwinding:
	for i, f := range r.downwards() {
		switch f.Kind {
		case api.FrRepeat, api.FrLoop, api.FrFor, api.FrForall:
			r.Exec, e = r.Exec[:i], api.OK
			break unwinding
		case api.FrStopped, api.FrText:
			break unwinding
		}
	}
	return e
}

func (r *runner) doStop() api.Errno {
	for i, f := range r.downwards() {
		if f.Kind != api.FrStopped {
			continue
		}
		if n := len(r.State.Ops); n >= api.MaxOps {
			r.State.Ops = r.State.Ops[: n-1 : n-1]
		}
		r.Exec = r.Exec[:i]
		return r.push(api.Obj{Kind: api.KBool, N: 1})
	}
	r.end(api.MFailed)
	return api.OK
}

// bound returns the operator that an executable name stands for, if it does.
func (r *runner) bound(o api.Obj) (api.Obj, bool) {
	if !o.Exec || o.Kind != api.KName {
		return api.Obj{}, false
	}
	v, ok := dict.Lookup(r.State, literal(o.Name))
	return v, ok && v.Exec && v.Kind == api.KOperator
}

func (r *runner) doBind() api.Errno {
	l, e := r.take(isProcedure)
	if e != api.OK {
		return e
	}
	h := slices.Clone(r.State.Heap)
	// Procedures may be within each other in a circle.
	seen := map[api.Obj]bool{}
	for work := []api.Obj{l[0]}; len(work) > 0; {
		last := len(work) - 1
		proc := work[last]
		work = work[:last]
		if seen[proc] || !heap.Fits(h, proc) {
			continue
		}
		seen[proc] = true
		items := slices.Clone(h[proc.Ref].Items)
		part := items[proc.Off : proc.Off+proc.Len]
		for i, o := range part {
			if op, ok := r.bound(o); ok {
				part[i] = op
			} else if isProcedure(o) {
				work = append(work, o)
			}
		}
		h[proc.Ref].Items = items
	}
	r.State.Heap = h
	return r.push(l[0])
}

func (r *runner) doToken() api.Errno {
	l, e := r.take(isString)
	if e != api.OK {
		return e
	}
	s, e := heap.Bytes(r.State.Heap, l[0])
	if e != api.OK {
		return e
	}
	source := reader{r.State, s, 0}
	o, _, e := source.read()
	if e == api.ErrNone {
		return r.push(api.Obj{Kind: api.KBool})
	}
	if e != api.OK {
		return e
	}
	rest, e := heap.Interval(l[0], source.at, l[0].Len-source.at)
	if e != api.OK {
		return e
	}
	r.State = source.State
	return r.push(rest, o, api.Obj{Kind: api.KBool, N: 1})
}
