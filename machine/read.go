package machine

import (
	"chase/api"
	"chase/dict"
	"chase/heap"
	"chase/scan"
)

// reader reads objects from a source, and makes their cells.
type reader struct {
	api.State
	src string
	at  int
}

// read reads an object, and returns the kind of its token. The error is ErrNone if there is none.
func (r *reader) read() (api.Obj, int, api.Errno) {
	t, e := r.token()
	if e != api.OK {
		return api.Obj{}, 0, e
	}
	o, e := r.object(t)
	return o, t.Kind, e
}

func (r *reader) token() (api.Token, api.Errno) {
	t, next, e := scan.Next(r.src, r.at)
	if e == api.OK {
		r.at = next
	}
	return t, e
}

// object returns what a token denotes.
func (r *reader) object(t api.Token) (api.Obj, api.Errno) {
	switch t.Kind {
	case api.TkInt:
		return api.Obj{Kind: api.KInt, N: t.N}, api.OK
	case api.TkReal:
		return api.Obj{Kind: api.KReal, N: t.N}, api.OK
	case api.TkName:
		return api.Obj{Kind: api.KName, Exec: true, Name: t.Text}, api.OK
	case api.TkLiteral:
		return literal(t.Text), api.OK
	case api.TkImmediate:
		o, ok := dict.Lookup(r.State, literal(t.Text))
		if !ok {
			return api.Obj{}, api.Undefined
		}
		return o, api.OK
	case api.TkString:
		return r.create(api.Obj{Kind: api.KString, Len: len(t.Text)}, api.Cell{Kind: api.CString, Bytes: t.Text})
	case api.TkOpen:
		return r.procedure()
	}
	return api.Obj{}, api.SyntaxError
}

func literal(name string) api.Obj { return api.Obj{Kind: api.KName, Name: name} }

// create makes a cell, and returns the object with its reference.
func (r *reader) create(o api.Obj, c api.Cell) (api.Obj, api.Errno) {
	h, ref, e := heap.New(r.Heap, c)
	if e != api.OK {
		return api.Obj{}, e
	}
	r.Heap = h
	o.Ref = ref
	return o, api.OK
}

// procedure reads the objects up to the end of a procedure.
func (r *reader) procedure() (api.Obj, api.Errno) {
	var items []api.Obj
	for {
		t, e := r.token()
		if e == api.ErrNone {
			e = api.SyntaxError
		}
		if e != api.OK {
			return api.Obj{}, e
		}
		if t.Kind == api.TkClose {
			break
		}
		o, e := r.object(t)
		if e != api.OK {
			return api.Obj{}, e
		}
		items = append(items, o)
		if len(items) > api.MaxArray {
			return api.Obj{}, api.LimitCheck
		}
	}
	return r.create(api.Obj{Kind: api.KArray, Exec: true, Len: len(items)}, api.Cell{Kind: api.CArray, Items: items})
}
