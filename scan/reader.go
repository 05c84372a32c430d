package scan

import (
	"chase/api"
	"chase/ascii"
	"chase/lex"
)

// The first octets of binary tokens.
const (
	binInt4 = 128 + iota
	binInt1
	binInt2
	binReal
	binShort
	binLong
	binLiteral
	binName
	binImmediate
)

// source is a text, and how far it has been read.
type source struct {
	text string
	at   int
}

// run returns how many elements of l, from its beginning, suit.
func run[T ~string](l T, suits func(byte) bool) int {
	n := 0
	for n < len(l) && suits(l[n]) {
		n++
	}
	return n
}

// skip moves behind white space and comments.
func (s *source) skip() {
	for s.at < len(s.text) {
		n := run(s.text[s.at:], func(c byte) bool {
			return c == 0 || c == 9 || c == 10 || c == 12 || c == 13 || c == 32
		})
		if s.at += n; s.at == len(s.text) || s.text[s.at] != '%' {
			return
		}
		s.at += run(s.text[s.at:], func(c byte) bool { return c != 10 && c != 13 })
	}
}

// behind is the text n octets behind the beginning of the token.
func (s *source) behind(n int) string {
	return s.text[min(s.at+n, len(s.text)):]
}

func (s *source) follows(c byte) bool {
	rest := s.behind(1)
	return rest != "" && rest[0] == c
}

// reader reads the token that begins at its place.
type reader struct {
	source
	first byte
}

// result is a token, its length, and an error.
type result struct {
	token  api.Token
	length int
	err    api.Errno
}

func failure(e api.Errno) result {
	if e != api.LimitCheck && e != api.ErrLong {
		return result{err: api.SyntaxError}
	}
	return result{err: api.LimitCheck}
}

// readers has how tokens are read, by their first octets.
func readers() map[byte]func(*reader) result {
	return map[byte]func(*reader) result{
		'(': (*reader).quoted,
		'{': (*reader).brace,
		'}': (*reader).brace,
		'[': (*reader).bracket,
		']': (*reader).bracket,
		'<': (*reader).angle,
		'>': (*reader).close,
		'/': (*reader).literal,
		')': (*reader).malformed,

		binInt4:      (*reader).int4,
		binInt1:      (*reader).int1,
		binInt2:      (*reader).int2,
		binReal:      (*reader).real,
		binShort:     (*reader).short,
		binLong:      (*reader).long,
		binLiteral:   (*reader).name,
		binName:      (*reader).name,
		binImmediate: (*reader).name,
	}
}

// Next returns the token at an index of src, or behind white space and comments there, and the index after it.
func Next(src string, at int) (api.Token, int, api.Errno) {
	if len(src) > api.MaxData {
		return api.Token{}, 0, api.ErrLong
	}
	if at < 0 || at > len(src) {
		return api.Token{}, 0, api.ErrArg
	}
	r := &reader{source: source{src, at}}
	r.skip()
	if r.at == len(src) {
		return api.Token{}, len(src), api.ErrNone
	}
	r.first = src[r.at]
	read := (*reader).malformed
	if f, ok := readers()[r.first]; ok {
		read = f
	} else if lex.Regular(r.first) {
		read = (*reader).word
	}
	x := read(r)
	if x.err != api.OK {
		return api.Token{}, r.at, x.err
	}
	return x.token, r.at + x.length, api.OK
}

func (r *reader) malformed() result {
	return result{err: api.SyntaxError}
}

func (r *reader) brace() result {
	if r.first == '{' {
		return result{token: api.Token{Kind: api.TkOpen}, length: 1}
	}
	return result{token: api.Token{Kind: api.TkClose}, length: 1}
}

func (r *reader) bracket() result {
	return result{token: api.Token{Kind: api.TkName, Text: string(r.first)}, length: 1}
}

func (r *reader) close() result {
	if !r.follows('>') {
		return r.malformed()
	}
	return result{token: api.Token{Kind: api.TkName, Text: ">>"}, length: 2}
}

func (r *reader) angle() result {
	if r.follows('<') {
		return result{token: api.Token{Kind: api.TkName, Text: "<<"}, length: 2}
	}
	if r.follows('~') {
		s, n, e := ascii.Unbase85(r.behind(2))
		return text(s, n+2, e)
	}
	s, n, e := ascii.Unhex(r.behind(1))
	return text(s, n+1, e)
}

func (r *reader) quoted() result {
	s, n, e := lex.Unquote(r.behind(0))
	return text(s, n, e)
}

// text is the string s, unless it is too long.
func text(s string, length int, e api.Errno) result {
	if e != api.OK {
		return failure(e)
	}
	if len(s) > api.MaxString {
		return failure(api.LimitCheck)
	}
	return result{token: api.Token{Kind: api.TkString, Text: s}, length: length}
}

func (r *reader) literal() result {
	kind, lead := api.TkLiteral, 1
	if r.follows('/') {
		kind, lead = api.TkImmediate, 2
	}
	rest := r.behind(lead)
	return named(kind, rest[:run(rest, lex.Regular)], lead)
}

// named is a token of a kind with the Text s, which begins lead octets behind the beginning of the token.
func named(kind int, s string, lead int) result {
	if len(s) > api.MaxName {
		return failure(api.LimitCheck)
	}
	t := api.Token{Kind: kind, Text: s}
	if e := lex.Check(t); e != api.OK {
		return failure(e)
	}
	return result{token: t, length: lead + len(s)}
}

func (r *reader) word() result {
	rest := r.behind(0)
	n := run(rest, lex.Regular)
	t, e := lex.Word(rest[:n])
	if e != api.OK {
		return failure(e)
	}
	return result{token: t, length: n}
}

// number returns the number in the n octets behind the first one, as a signed one; ok is false if they are cut off.
func (r *reader) number(n int) (value int, ok bool) {
	rest := r.behind(1)
	if len(rest) < n {
		return 0, false
	}
	for i := range n {
		value = value<<8 | int(rest[i])
	}
	if rest[0] >= 128 {
		value -= 1 << (8 * n)
	}
	return value, true
}

func (r *reader) numeral(kind, n int) result {
	v, ok := r.number(n)
	if !ok {
		return r.malformed()
	}
	return result{token: api.Token{Kind: kind, N: v}, length: n + 1}
}

func (r *reader) int4() result { return r.numeral(api.TkInt, 4) }
func (r *reader) int1() result { return r.numeral(api.TkInt, 1) }
func (r *reader) int2() result { return r.numeral(api.TkInt, 2) }
func (r *reader) real() result { return r.numeral(api.TkReal, 4) }

// counted returns the octets whose number is told by the first n octets.
func (r *reader) counted(n int) (string, bool) {
	count, ok := r.number(n)
	if count < 0 {
		count += 1 << (8 * n)
	}
	rest := r.behind(1 + n)
	if !ok || len(rest) < count {
		return "", false
	}
	return rest[:count], true
}

func (r *reader) string(n int) result {
	s, ok := r.counted(n)
	if !ok {
		return r.malformed()
	}
	return text(s, 1+n+len(s), api.OK)
}

func (r *reader) short() result { return r.string(1) }
func (r *reader) long() result  { return r.string(2) }

func (r *reader) name() result {
	s, ok := r.counted(1)
	if !ok {
		return r.malformed()
	}
	kind := api.TkName
	switch r.first {
	case binLiteral:
		kind = api.TkLiteral
	case binImmediate:
		kind = api.TkImmediate
	}
	return named(kind, s, 2)
}
