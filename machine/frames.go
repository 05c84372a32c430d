package machine

import (
	"chase/api"
	"chase/heap"
)

// top returns the top frame.
func (r *runner) top() *api.Frame {
	return &r.Exec[len(r.Exec)-1]
}

// proc executes the next object of a procedure.
func (r *runner) proc() (api.Obj, api.Errno) {
	f := r.top()
	l, e := heap.Items(r.State.Heap, f.Body)
	if e != api.OK || f.At < 0 || f.At >= len(l) {
		r.leave()
		return api.Obj{}, api.OK
	}
	x := l[f.At]
	f.At++
	if f.At == len(l) {
		r.leave()
	}
	if isProcedure(x) {
		return x, r.push(x)
	}
	return x, r.execute(x)
}

// text executes the next object of a source.
func (r *runner) text() (api.Obj, api.Errno) {
	f := r.top()
	source := reader{r.State, f.Text, f.At}
	x, kind, e := source.read()
	if e != api.OK {
		r.leave()
		if e == api.ErrNone {
			e = api.OK
		}
		return api.Obj{}, e
	}
	r.State, f.At = source.State, source.at
	if kind == api.TkName {
		return x, r.execute(x)
	}
	return x, r.push(x)
}

func (r *runner) object() (api.Obj, api.Errno) {
	x := r.top().Body
	r.leave()
	return x, r.execute(x)
}

func (r *runner) repeat() (api.Obj, api.Errno) {
	f := r.top()
	body := f.Body
	if f.N <= 0 {
		r.leave()
		return body, api.OK
	}
	f.N--
	return body, r.call(body)
}

func (r *runner) loop() (api.Obj, api.Errno) {
	body := r.top().Body
	return body, r.call(body)
}

// with pushes objects, and calls a procedure then.
func (r *runner) with(body api.Obj, l ...api.Obj) (api.Obj, api.Errno) {
	if e := r.push(l...); e != api.OK {
		return body, e
	}
	return body, r.call(body)
}

func (r *runner) forNumbers() (api.Obj, api.Errno) {
	f := r.top()
	if f.Step >= 0 && f.N > f.End || f.Step < 0 && f.N < f.End {
		r.leave()
		return api.Obj{}, api.OK
	}
	n := api.Obj{Kind: api.KInt, N: f.N}
	if f.Real {
		n.Kind = api.KReal
	}
	f.N += f.Step
	return r.with(f.Body, n)
}

func (r *runner) forall() (api.Obj, api.Errno) {
	f := r.top()
	if len(f.List) == 0 {
		r.leave()
		return api.Obj{}, api.OK
	}
	n := 1
	if f.Pairs {
		n = min(2, len(f.List))
	}
	next := f.List[:n:n]
	f.List = f.List[n:]
	return r.with(f.Body, next...)
}

func (r *runner) stopped() (api.Obj, api.Errno) {
	r.leave()
	return api.Obj{Kind: api.KOperator, Exec: true, Name: "stopped"}, r.push(api.Obj{Kind: api.KBool})
}
