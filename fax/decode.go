package fax

import "chase/api"

// reader reads modes and runs, and draws a row by them.
type reader struct {
	coder
	text string
	at   int // counted in bits
	bad  bool
}

func (r *reader) bit() int {
	if r.at >= 8*len(r.text) {
		r.bad = true
		return 0
	}
	b := r.text[r.at/8] >> (7 - r.at%8) & 1
	r.at++
	return int(b)
}

// zeros counts bits 0 up to the next bit 1, which is read.
func (r *reader) zeros(most int) int {
	n := 0
	for r.bit() == 0 {
		n++
		if r.bad || n > most {
			r.bad = true
			return 0
		}
	}
	return n
}

func (r *reader) run() int {
	n := 1
	for range r.zeros(8) {
		n = 2*n + r.bit()
	}
	return n - 1
}

// paint colors the pixels from a on, up to p.
func (r *reader) paint(p int, color byte) {
	for i := max(r.a, 0); i < p; i++ {
		r.now[i] = color
	}
	r.a = p
}

// modes has what is done after so many bits 0 and a bit 1.
func modes() map[int]func(*reader, int) {
	return map[int]func(*reader, int){
		0: (*reader).level,
		1: (*reader).vertical,
		2: (*reader).horizontal,
		3: (*reader).pass,
		4: (*reader).vertical,
		5: (*reader).vertical,
	}
}

func (r *reader) level(int) { r.move(0) }

func (r *reader) vertical(zeros int) {
	n := zeros - 2
	if zeros == 1 {
		n = 1
	}
	if r.bit() == 0 {
		n = -n
	}
	r.move(n)
}

func (r *reader) move(difference int) {
	b, _ := r.marks()
	p := b + difference
	if p <= r.a || p < 0 || p > r.width {
		r.bad = true
		return
	}
	r.paint(p, r.color)
	r.color = 1 - r.color
}

func (r *reader) horizontal(int) {
	p := max(r.a, 0) + r.run()
	q := p + r.run()
	if p <= r.a || p > r.width || q > r.width {
		r.bad = true
		return
	}
	r.paint(p, r.color)
	r.paint(q, 1-r.color)
}

func (r *reader) pass(int) {
	_, d := r.marks()
	if d == r.width {
		r.bad = true
		return
	}
	r.paint(d, r.color)
}

// ended reports whether the end is next, and reads it then.
func (r *reader) ended() bool {
	from := r.at
	if r.zeros(7) == 7 {
		return true
	}
	r.at, r.bad = from, false
	return false
}

// row reads a row.
func (r *reader) row(known map[int]func(*reader, int)) {
	r.begin()
	for r.a < r.width && !r.bad {
		zeros := r.zeros(5)
		if !r.bad {
			known[zeros](r, zeros)
		}
	}
}

// fill reads the bits that fill the last octet.
func (r *reader) fill() {
	for r.at%8 != 0 {
		if r.bit() != 0 {
			r.bad = true
		}
	}
}

// Decode returns the rows of width w whose code is at the beginning of s, and the index after it.
func Decode(s string, w int) (string, int, api.Errno) {
	if e := widthError(s, w); e != api.OK {
		return "", 0, e
	}
	r := &reader{text: s}
	r.width = w
	known := modes()
	var out []byte
	for !r.bad && !r.ended() {
		r.row(known)
		p := r.now.pack()
		out = append(out, p[:size(w)]...)
	}
	r.fill()
	if r.bad {
		return "", 0, api.ErrForm
	}
	if len(out) > api.MaxData {
		return "", 0, api.ErrLong
	}
	return string(out), r.at / 8, api.OK
}
