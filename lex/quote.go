package lex

import "chase/api"

// Quote returns the canonical text of a string.
func Quote(s string) string {
	out := []byte{'('}
	for i := range len(s) {
		c := s[i]
		switch {
		case c == '(' || c == ')' || c == '\\':
			out = append(out, '\\', c)
		case 32 <= c && c <= 126:
			out = append(out, c)
		default:
			out = append(out, '\\', '0'+c>>6, '0'+c>>3&7, '0'+c&7)
		}
	}
	return string(append(out, ')'))
}

// input is a text that is read from the front.
type input struct {
	text string
	at   int
}

func (in *input) next() (byte, bool) {
	if in.at >= len(in.text) {
		return 0, false
	}
	in.at++
	return in.text[in.at-1], true
}

// lineEnd skips the 10 of a line end that began with c.
func (in *input) lineEnd(c byte) {
	if c == 13 && in.at < len(in.text) && in.text[in.at] == 10 {
		in.at++
	}
}

// quoted reads a quoted string.
type quoted struct {
	input
	out     []byte
	depth   int
	escapes map[byte]byte
}

// read reads the string behind its first parenthesis, and reports whether it ends.
func (q *quoted) read() bool {
	for c, ok := q.next(); ok; c, ok = q.next() {
		switch c {
		case '(':
			q.depth++
		case ')':
			q.depth--
			if q.depth == 0 {
				return true
			}
		case 10, 13:
			q.lineEnd(c)
			c = 10
		case '\\':
			q.escape()
			continue
		}
		q.out = append(q.out, c)
	}
	return false
}

func (q *quoted) escape() {
	c, ok := q.next()
	if !ok {
		return
	}
	if d, ok := q.escapes[c]; ok {
		q.out = append(q.out, d)
		return
	}
	switch {
	case c == 10 || c == 13:
		q.lineEnd(c)
	case '0' <= c && c <= '7':
		q.octal(c)
	default:
		q.out = append(q.out, c)
	}
}

func (q *quoted) octal(c byte) {
	n := c - '0'
	for i := 0; i < 2 && q.at < len(q.text); i++ {
		d := q.text[q.at]
		if d < '0' || d > '7' {
			break
		}
		n = 8*n + d - '0'
		q.at++
	}
	q.out = append(q.out, n)
}

// Unquote returns the octets of the quoted string at the beginning of s, and the index after it.
func Unquote(s string) (string, int, api.Errno) {
	q := &quoted{input: input{text: s, at: 1}, depth: 1}
	q.escapes = map[byte]byte{'n': 10, 'r': 13, 't': 9, 'b': 8, 'f': 12}
	if s == "" || s[0] != '(' || !q.read() {
		return "", 0, api.ErrForm
	}
	if len(q.out) > api.MaxString {
		return "", 0, api.LimitCheck
	}
	return string(q.out), q.at, api.OK
}
