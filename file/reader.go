package file

import (
	"iter"

	"chase/api"
	"chase/filter"
	"chase/heap"
	"chase/logic"
	"chase/stack"
)

// reader reads files and prints, for a state.
type reader struct {
	api.State
}

// operands returns the highest operands, of these kinds. The kind Kinds stands for any.
func (r reader) operands(kinds ...int) ([]api.Obj, api.Errno) {
	l, e := stack.Top(r.State, len(kinds))
	if e != api.OK {
		return nil, e
	}
	for i, o := range l {
		if kinds[i] != api.Kinds && kinds[i] != o.Kind {
			return nil, api.TypeCheck
		}
	}
	return l, api.OK
}

// replace replaces the n highest operands by others.
func (r reader) replace(n int, l ...api.Obj) (api.State, api.Errno) {
	s, e := stack.Drop(r.State, n)
	if e != api.OK {
		return s, e
	}
	return stack.Push(s, l...)
}

func truth(b bool) api.Obj {
	if b {
		return api.Obj{Kind: api.KBool, N: 1}
	}
	return api.Obj{Kind: api.KBool}
}

func number(n int) api.Obj {
	return api.Obj{Kind: api.KInt, N: n}
}

func (r reader) filter() (api.State, api.Errno) {
	l, e := r.operands(api.KString, api.KName)
	if e != api.OK {
		return r.State, e
	}
	s, e := heap.Bytes(r.Heap, l[0])
	if e != api.OK {
		return r.State, e
	}
	f := api.Filter{Name: l[1].Name}
	if filter.Check(f) != api.OK {
		return r.State, api.Undefined
	}
	decoded, e := filter.Decode([]api.Filter{f}, s)
	if e != api.OK {
		return r.State, api.IOError
	}
	if len(decoded) > api.MaxFile {
		return r.State, api.LimitCheck
	}
	h, ref, e := heap.New(r.Heap, api.Cell{Kind: api.CFile, Bytes: decoded, Max: 1})
	if e != api.OK {
		return r.State, e
	}
	r.Heap = h
	return r.replace(2, api.Obj{Kind: api.KFile, Ref: ref})
}

// cell returns the cell of a file.
func (r reader) cell(f api.Obj) (api.Cell, api.Errno) {
	if !heap.Fits(r.Heap, f) {
		return api.Cell{}, api.ErrArg
	}
	return r.Heap[f.Ref], api.OK
}

// rest returns the rest of an open file.
func (r reader) rest(f api.Obj) (string, api.Errno) {
	c, e := r.cell(f)
	if e != api.OK {
		return "", e
	}
	if c.Max != 1 {
		return "", api.IOError
	}
	if c.At < 0 || c.At > len(c.Bytes) {
		return "", api.OK
	}
	return c.Bytes[c.At:], api.OK
}

// change replaces the cell of a file, which fits.
func (r *reader) change(f api.Obj, to func(*api.Cell)) {
	h := make([]api.Cell, len(r.Heap))
	copy(h, r.Heap)
	to(&h[f.Ref])
	r.Heap = h
}

// pass reads n octets of a file.
func (r *reader) pass(f api.Obj, n int) {
	r.change(f, func(c *api.Cell) { c.At += n })
}

func (r *reader) shut(f api.Obj) {
	r.change(f, func(c *api.Cell) { c.Max = 0 })
}

func (r reader) read() (api.State, api.Errno) {
	l, e := r.operands(api.KFile)
	if e != api.OK {
		return r.State, e
	}
	rest, e := r.rest(l[0])
	if e != api.OK {
		return r.State, e
	}
	if rest == "" {
		r.shut(l[0])
		return r.replace(1, truth(false))
	}
	r.pass(l[0], 1)
	return r.replace(1, number(int(rest[0])), truth(true))
}

// source returns a file and a string, the two highest operands, and the rest of the file.
func (r reader) source() (f, into api.Obj, rest string, e api.Errno) {
	l, e := r.operands(api.KFile, api.KString)
	if e != api.OK {
		return f, into, "", e
	}
	rest, e = r.rest(l[0])
	if e == api.OK && l[1].Len == 0 {
		e = api.RangeCheck
	}
	return l[0], l[1], rest, e
}

// deliver reads n octets of a file, puts octets into a string, and replaces both operands by that part of it, and a boolean.
func (r reader) deliver(f, into api.Obj, n int, octets string, b bool) (api.State, api.Errno) {
	part, e := heap.Interval(into, 0, len(octets))
	if e != api.OK {
		return r.State, e
	}
	r.pass(f, n)
	r.Heap, e = heap.PutBytes(r.Heap, part, 0, octets)
	if e != api.OK {
		return r.State, e
	}
	return r.replace(2, part, truth(b))
}

func (r reader) readstring() (api.State, api.Errno) {
	f, into, rest, e := r.source()
	if e != api.OK {
		return r.State, e
	}
	n := min(into.Len, len(rest))
	return r.deliver(f, into, n, rest[:n], n == into.Len)
}

// where yields the indices of the octets of s that f finds something in, and what it finds.
func where(s string, f func(byte) (int, bool)) iter.Seq2[int, int] {
	return func(yield func(int, int) bool) {
		for i := range len(s) {
			if x, ok := f(s[i]); ok && !yield(i, x) {
				return
			}
		}
	}
}

func hexDigit(c byte) (int, bool) {
	switch {
	case '0' <= c && c <= '9':
		return int(c - '0'), true
	case 'a' <= c && c <= 'f':
		return int(c-'a') + 10, true
	case 'A' <= c && c <= 'F':
		return int(c-'A') + 10, true
	}
	return 0, false
}

func (r reader) readhexstring() (api.State, api.Errno) {
	f, into, rest, e := r.source()
	if e != api.OK {
		return r.State, e
	}
	octets, high, taken := []byte{}, -1, len(rest)
digits:
	for i, d := range where(rest, hexDigit) {
		if high < 0 {
			high = d
			continue
		}
		octets = append(octets, byte(high<<4|d))
		high = -1
		if len(octets) == into.Len {
			taken = i + 1
			break digits
		}
	}
	if high >= 0 {
		octets = append(octets, byte(high<<4))
	}
	return r.deliver(f, into, taken, string(octets), len(octets) == into.Len)
}

// lineEnd finds the octets with which the end of a line begins.
func lineEnd(c byte) (int, bool) {
	return int(c), c == 10 || c == 13
}

func (r reader) readline() (api.State, api.Errno) {
	f, into, rest, e := r.source()
	if e != api.OK {
		return r.State, e
	}
	line, taken, ended := rest, len(rest), false
search:
	for i, c := range where(rest, lineEnd) {
		line, taken, ended = rest[:i], i+1, true
		if c == 13 && taken < len(rest) && rest[taken] == 10 {
			taken++
		}
		break search
	}
	return r.deliver(f, into, taken, line, ended)
}

func (r reader) closefile() (api.State, api.Errno) {
	l, e := r.operands(api.KFile)
	if e != api.OK {
		return r.State, e
	}
	if _, e := r.cell(l[0]); e != api.OK {
		return r.State, e
	}
	r.shut(l[0])
	return r.replace(1)
}

func (r reader) bytesavailable() (api.State, api.Errno) {
	l, e := r.operands(api.KFile)
	if e != api.OK {
		return r.State, e
	}
	rest, e := r.rest(l[0])
	if e != api.OK && e != api.IOError {
		return r.State, e
	}
	return r.replace(1, number(len(rest)))
}

func (r reader) status() (api.State, api.Errno) {
	l, e := r.operands(api.KFile)
	if e != api.OK {
		return r.State, e
	}
	c, e := r.cell(l[0])
	if e != api.OK {
		return r.State, e
	}
	return r.replace(1, truth(c.Max == 1))
}

// append removes the top operand, and appends a text to what was printed.
func (r reader) append(text string) (api.State, api.Errno) {
	if len(r.Out)+len(text) > api.MaxOut {
		return r.State, api.LimitCheck
	}
	r.Out += text
	return r.replace(1)
}

func (r reader) print() (api.State, api.Errno) {
	l, e := r.operands(api.KString)
	if e != api.OK {
		return r.State, e
	}
	s, e := heap.Bytes(r.Heap, l[0])
	if e != api.OK {
		return r.State, e
	}
	return r.append(s)
}

func (r reader) printText() (api.State, api.Errno) {
	l, e := r.operands(api.Kinds)
	if e != api.OK {
		return r.State, e
	}
	return r.append(logic.Text(r.Heap, l[0]) + "\n")
}

func (r reader) printObject() (api.State, api.Errno) {
	l, e := r.operands(api.Kinds)
	if e != api.OK {
		return r.State, e
	}
	s, ok := Show(r.Heap, l[0])
	if !ok {
		return r.State, api.LimitCheck
	}
	return r.append(s + "\n")
}
