package cosine

import "chase/api"

const endOfBlock = 64

// number returns the number code of v.
func number(v int) []byte {
	u := 2 * v
	if v < 0 {
		u = -2*v - 1
	}
	var out []byte
	for u >= 128 {
		out = append(out, byte(u%128+128))
		u /= 128
	}
	return append(out, byte(u))
}

// Encode returns the code of a picture.
func Encode(s string, w, h, q int) (string, api.Errno) {
	if e := sizeError(s, w, h, q); e != api.OK {
		return "", e
	}
	if len(s) != w*h {
		return "", api.ErrSamples
	}
	var out []byte
	for x, y := range corners(w, h) {
		var b [64]int
		for r := range 8 {
			for c := range 8 {
				b[8*r+c] = int(s[min(y+r, h-1)*w+min(x+c, w-1)]) - 128
			}
		}
		coefs, _ := Forward(b)
		zeros := 0
		for i, j := range zigzag() {
			v := rounded(coefs[8*i+j], q)
			if v == 0 {
				zeros++
				continue
			}
			out = append(append(out, byte(zeros)), number(v)...)
			zeros = 0
		}
		out = append(out, endOfBlock)
	}
	if len(out) > api.MaxData {
		return "", api.ErrLong
	}
	return string(out), api.OK
}

// input is a text that is read from the front.
type input struct {
	text string
	at   int
	bad  bool
}

func (in *input) octet() int {
	if in.at >= len(in.text) {
		in.bad = true
		return 0
	}
	in.at++
	return int(in.text[in.at-1])
}

// reader reads the codes of blocks.
type reader struct {
	input
}

// number reads a number code.
func (r *reader) number() int {
	u, d := 0, 128
	for k := 0; d >= 128; k++ {
		if k == 3 {
			r.bad = true
			return 0
		}
		d = r.octet()
		u |= d & 127 << (7 * k)
	}
	if u == 0 {
		r.bad = true
	}
	if u%2 == 1 {
		return -(u + 1) / 2
	}
	return u / 2
}

// skip reads how many coefficients are 0 before the next one that is not; -1 at the end of a block.
func (r *reader) skip() int {
	n := r.octet()
	if n == endOfBlock {
		return -1
	}
	if n > endOfBlock {
		r.bad = true
	}
	return n
}

// block reads the coefficients of a block, each as read returns it.
func (r *reader) block(q int, read func() int) [64]int {
	var b [64]int
	left := r.skip()
coefficients:
	for i, j := range zigzag() {
		if left < 0 || r.bad {
			break coefficients
		}
		if left > 0 {
			left--
			continue
		}
		b[8*i+j] = q * read()
		left = r.skip()
	}
	// All 64 coefficients have been told, but not the end.
	if left >= 0 {
		r.bad = true
	}
	return b
}

// Decode returns the picture whose code is at the beginning of s, and the index after it.
func Decode(s string, w, h, q int) (string, int, api.Errno) {
	if e := sizeError(s, w, h, q); e != api.OK {
		return "", 0, e
	}
	r := &reader{input{text: s}}
	out := make([]byte, w*h)
	for x, y := range corners(w, h) {
		coefs := r.block(q, r.number)
		if r.bad {
			return "", 0, api.ErrForm
		}
		b, e := Inverse(coefs)
		if e != api.OK {
			return "", 0, api.ErrForm
		}
		for i, v := range b {
			if row, column := y+i/8, x+i%8; row < h && column < w {
				out[row*w+column] = byte(min(max(v+128, 0), 255))
			}
		}
	}
	return string(out), r.at, api.OK
}
