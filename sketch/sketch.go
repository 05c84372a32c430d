// Package sketch writes down operands as text, and reads them from it. Tests say with it what they give to operators, and what they expect.
//
// A text consists of tokens (layer 4), of which each denotes an object: 1 2.5 /a b (c) true false null mark, [1 2] for an array, {1 2} for an executable one, << /a 1 >> for a dictionary. Some words change the object in front of them: exec makes it executable, packed makes an array a packed one, file and closed make files of strings, save makes a save object of an int, op an operator of a name; n spare gives a dictionary room for n more keys.
package sketch

import (
	"strconv"
	"strings"

	"chase/api"
	"chase/lex"
	"chase/scan"
)

// builder has the objects that have been read, and the indices at which composite ones begin.
type builder struct {
	heap   []api.Cell
	l      []api.Obj
	begins []int
}

// Put pushes the objects of a text on the operand stack of a state.
func Put(s api.State, text string) api.State {
	b := &builder{heap: s.Heap[:len(s.Heap):len(s.Heap)], l: s.Ops[:len(s.Ops):len(s.Ops)]}
	tokens, _, _ := scan.All(text)
	for _, t := range tokens {
		b.take(t)
	}
	s.Heap, s.Ops = b.heap, b.l
	return s
}

func (b *builder) push(o api.Obj) { b.l = append(b.l, o) }

func (b *builder) cell(c api.Cell) int {
	b.heap = append(b.heap, c)
	return len(b.heap) - 1
}

// pop removes and returns the objects from the index i on.
func (b *builder) pop(i int) []api.Obj {
	i = max(i, 0)
	out := append([]api.Obj{}, b.l[i:]...)
	b.l = b.l[:i]
	return out
}

func (b *builder) begin() { b.begins = append(b.begins, len(b.l)) }

// end removes and returns the objects since the last begin.
func (b *builder) end() []api.Obj {
	if len(b.begins) == 0 {
		return nil
	}
	i := b.begins[len(b.begins)-1]
	b.begins = b.begins[:len(b.begins)-1]
	return b.pop(i)
}

func (b *builder) array(exec bool) {
	items := b.end()
	b.push(api.Obj{Kind: api.KArray, Exec: exec, Ref: b.cell(api.Cell{Kind: api.CArray, Items: items}), Len: len(items)})
}

func (b *builder) dictionary() {
	c := api.Cell{Kind: api.CDict}
	for i, o := range b.end() {
		if i%2 == 0 {
			c.Keys = append(c.Keys, o)
		} else {
			c.Vals = append(c.Vals, o)
		}
	}
	c.Max = len(c.Keys)
	b.push(api.Obj{Kind: api.KDict, Ref: b.cell(c)})
}

func (b *builder) take(t api.Token) {
	switch t.Kind {
	case api.TkInt:
		b.push(api.Obj{Kind: api.KInt, N: t.N})
	case api.TkReal:
		b.push(api.Obj{Kind: api.KReal, N: t.N})
	case api.TkLiteral, api.TkImmediate:
		b.push(api.Obj{Kind: api.KName, Name: t.Text})
	case api.TkString:
		b.push(api.Obj{Kind: api.KString, Ref: b.cell(api.Cell{Kind: api.CString, Bytes: t.Text}), Len: len(t.Text)})
	case api.TkOpen:
		b.begin()
	case api.TkClose:
		b.array(true)
	case api.TkName:
		b.word(t.Text)
	}
}

func (b *builder) word(w string) {
	switch w {
	case "[", "<<":
		b.begin()
	case "]":
		b.array(false)
	case ">>":
		b.dictionary()
	case "true":
		b.push(api.Obj{Kind: api.KBool, N: 1})
	case "false":
		b.push(api.Obj{Kind: api.KBool})
	case "null":
		b.push(api.Obj{})
	case "mark":
		b.push(api.Obj{Kind: api.KMark})
	case "exec", "packed", "file", "closed", "save", "op", "spare":
		b.change(w)
	default:
		b.push(api.Obj{Kind: api.KName, Exec: true, Name: w})
	}
}

// change changes the last object.
func (b *builder) change(w string) {
	for _, o := range b.pop(len(b.l) - 1) {
		switch w {
		case "exec":
			o.Exec = true
		case "packed":
			o.Kind = api.KPacked
		case "save":
			o.Kind = api.KSave
		case "op":
			o.Kind = api.KOperator
		case "file", "closed":
			b.heap[o.Ref].Kind = api.CFile
			if w == "file" {
				b.heap[o.Ref].Max = 1
			}
			o = api.Obj{Kind: api.KFile, Ref: o.Ref}
		case "spare":
			room := o.N
			o = b.l[len(b.l)-1]
			b.l = b.l[:len(b.l)-1]
			b.heap[o.Ref].Max += room
		}
		b.push(o)
	}
}

// Show returns the operands of a state as text.
func Show(s api.State) string {
	return Text(s.Heap, s.Ops)
}

// Text returns objects of a heap as text. Arrays and dictionaries that are deep within others are abbreviated.
func Text(h []api.Cell, l []api.Obj) string {
	return list(h, l, 9)
}

func list(h []api.Cell, l []api.Obj, depth int) string {
	if depth == 0 {
		return ".."
	}
	words := []string{}
	for _, o := range l {
		words = append(words, one(h, o, depth))
	}
	return strings.Join(words, " ")
}

func one(h []api.Cell, o api.Obj, depth int) string {
	exec := ""
	if o.Exec {
		exec = " exec"
	}
	switch o.Kind {
	case api.KNull:
		return "null" + exec
	case api.KMark:
		return "mark" + exec
	case api.KBool:
		return strconv.FormatBool(o.N == 1) + exec
	case api.KInt:
		return strconv.Itoa(o.N) + exec
	case api.KReal:
		s, _ := lex.Text(api.Token{Kind: api.TkReal, N: o.N})
		return s + exec
	case api.KName:
		if o.Exec {
			return o.Name
		}
		return "/" + o.Name
	case api.KOperator:
		if o.Exec {
			return o.Name + " op"
		}
		return "/" + o.Name + " op"
	case api.KSave:
		return strconv.Itoa(o.N) + " save" + exec
	}
	if o.Ref < 0 || o.Ref >= len(h) {
		return "lost"
	}
	return composite(h, o, depth) + exec
}

func composite(h []api.Cell, o api.Obj, depth int) string {
	c := h[o.Ref]
	switch o.Kind {
	case api.KString:
		return lex.Quote(c.Bytes[o.Off : o.Off+o.Len])
	case api.KArray, api.KPacked:
		s := "[" + list(h, c.Items[o.Off:o.Off+o.Len], depth-1) + "]"
		if o.Kind == api.KPacked {
			s += " packed"
		}
		return s
	case api.KFile:
		if c.Max == 0 {
			return lex.Quote(c.Bytes[c.At:]) + " closed"
		}
		return lex.Quote(c.Bytes[c.At:]) + " file"
	}
	pairs := []api.Obj{}
	for i, k := range c.Keys {
		pairs = append(pairs, k, c.Vals[i])
	}
	s := "<<" + list(h, pairs, depth-1) + ">>"
	if c.Max > len(c.Keys) {
		s += " " + strconv.Itoa(c.Max-len(c.Keys)) + " spare"
	}
	return s
}
