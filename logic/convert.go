package logic

import (
	"strconv"
	"strings"

	"chase/api"
	"chase/heap"
	"chase/lex"
	"chase/object"
	"chase/real"
)

// writer writes objects of some kinds.
type writer struct {
	kinds
	text func(h []api.Cell, o api.Obj) string
}

func writers() [5]writer {
	return [5]writer{
		{ints, func(_ []api.Cell, o api.Obj) string { return strconv.Itoa(o.N) }},
		{1 << api.KReal, func(_ []api.Cell, o api.Obj) string { return first(real.Print(o.N)) }},
		{booleans, func(_ []api.Cell, o api.Obj) string { return strconv.FormatBool(o.N == 1) }},
		{1<<api.KName | 1<<api.KOperator, func(_ []api.Cell, o api.Obj) string { return o.Name }},
		{texts, func(h []api.Cell, o api.Obj) string { return first(heap.Bytes(h, o)) }},
	}
}

func first(s string, _ api.Errno) string { return s }

// Text returns the text of an object that fits the heap.
func Text(h []api.Cell, o api.Obj) string {
	if !heap.Fits(h, o) {
		return ""
	}
	for _, w := range writers() {
		if w.have(o) {
			return w.text(h, o)
		}
	}
	return "--nostringval--"
}

func (j judge) kind() (api.State, api.Errno) {
	return convert(j, anyKind, object.KindName, func(s string) (api.Obj, api.Errno) { return object.Name(s, true) })
}

// convert replaces the top operand by what put makes of what get finds in it.
func convert[T any](j judge, from kinds, get func(api.Obj) (T, api.Errno), put func(T) (api.Obj, api.Errno)) (api.State, api.Errno) {
	l, e := j.operands(from)
	if e != api.OK {
		return j.State, e
	}
	x, e := get(l[0])
	if e != api.OK {
		return j.State, e
	}
	o, e := put(x)
	if e != api.OK {
		return j.State, e
	}
	return j.replace(1, o)
}

func itself(o api.Obj) (api.Obj, api.Errno) { return o, api.OK }

func (j judge) xcheck() (api.State, api.Errno) {
	return convert(j, anyKind, itself, func(o api.Obj) (api.Obj, api.Errno) { return object.Bool(o.Exec), api.OK })
}

func (j judge) executable(exec bool) (api.State, api.Errno) {
	return convert(j, anyKind, itself, func(o api.Obj) (api.Obj, api.Errno) {
		o.Exec = exec
		return o, api.OK
	})
}

func (j judge) cvn() (api.State, api.Errno) {
	return convert(j, texts, itself, func(o api.Obj) (api.Obj, api.Errno) {
		s, e := heap.Bytes(j.Heap, o)
		if e != api.OK {
			return api.Obj{}, e
		}
		name, e := object.Name(s, o.Exec)
		if e != api.OK {
			return api.Obj{}, api.RangeCheck
		}
		return name, api.OK
	})
}

// number returns a number, or that whose text a string contains.
func (j judge) number(o api.Obj) (api.Obj, api.Errno) {
	if numbers.have(o) {
		return o, api.OK
	}
	s, e := heap.Bytes(j.Heap, o)
	if e != api.OK {
		return api.Obj{}, e
	}
	t, e := lex.Number(s)
	switch {
	case e == api.ErrForm:
		return api.Obj{}, api.TypeCheck
	case e != api.OK:
		return api.Obj{}, api.RangeCheck
	case t.Kind == api.TkInt:
		return api.Obj{Kind: api.KInt, N: t.N}, api.OK
	}
	return api.Obj{Kind: api.KReal, N: t.N}, api.OK
}

func (j judge) cvi() (api.State, api.Errno) {
	return convert(j, numbers|texts, j.number, object.ToInt)
}

func (j judge) cvr() (api.State, api.Errno) {
	return convert(j, numbers|texts, j.number, object.ToReal)
}

// write puts a text into a string, and replaces the n highest operands by that part of it.
func (j judge) write(n int, text string, into api.Obj) (api.State, api.Errno) {
	part, e := heap.Interval(into, 0, len(text))
	if e != api.OK {
		return j.State, e
	}
	j.Heap, e = heap.PutBytes(j.Heap, part, 0, text)
	if e != api.OK {
		return j.State, e
	}
	return j.replace(n, part)
}

func (j judge) cvs() (api.State, api.Errno) {
	l, e := j.operands(anyKind, texts)
	if e != api.OK {
		return j.State, e
	}
	return j.write(2, Text(j.Heap, l[0]), l[1])
}

func (j judge) cvrs() (api.State, api.Errno) {
	l, e := j.operands(numbers, ints, texts)
	if e != api.OK {
		return j.State, e
	}
	n, base := l[0], l[1].N
	switch {
	case base < 2 || base > 36:
		return j.State, api.RangeCheck
	case base == 10:
		return j.write(3, Text(j.Heap, n), l[2])
	}
	whole, e := object.ToInt(n)
	if e != api.OK {
		return j.State, e
	}
	text := strconv.FormatUint(uint64(uint32(whole.N)), base)
	return j.write(3, strings.ToUpper(text), l[2])
}
