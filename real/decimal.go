package real

import (
	"iter"
	"strconv"
	"strings"

	"chase/api"
)

// Print returns the value of a as a decimal.
func Print(a int) (string, api.Errno) {
	if !Is(a) {
		return "", api.ErrArg
	}
	sign := ""
	if a < 0 {
		sign, a = "-", -a
	}
	fraction := []byte{}
	for d := range fractionDigits(a % api.One) {
		fraction = append(fraction, '0'+byte(d))
	}
	if len(fraction) == 0 {
		fraction = append(fraction, '0')
	}
	return sign + strconv.Itoa(a/api.One) + "." + string(fraction), api.OK
}

// fractionDigits yields the decimal digits of n / One, up to the last one that is not 0.
func fractionDigits(n int) iter.Seq[int] {
	return func(yield func(int) bool) {
		for n > 0 {
			n *= 10
			if !yield(n / api.One) {
				return
			}
			n %= api.One
		}
	}
}

// input is a text that is read from the front.
type input struct {
	text string
	at   int
}

func (in *input) peek() byte {
	if in.at < len(in.text) {
		return in.text[in.at]
	}
	return 0
}

// take skips the next octet if it is one of set.
func (in *input) take(set string) (byte, bool) {
	c := in.peek()
	if c == 0 || strings.IndexByte(set, c) < 0 {
		return 0, false
	}
	in.at++
	return c, true
}

// scanner reads a decimal: its digits denote a fraction 0.ddd, times 10 to the power of point.
type scanner struct {
	input
	negative bool
	digits   []byte
	point    int
}

const allDigits = "0123456789"

func (s *scanner) sign() bool {
	c, ok := s.take("+-")
	s.negative = ok && c == '-'
	return true
}

func (s *scanner) mantissa() bool {
	seen := false
	for c, ok := s.take(allDigits + "."); ok; c, ok = s.take(allDigits + ".") {
		if c != '.' {
			s.digits = append(s.digits, c-'0')
			continue
		}
		if seen {
			return false
		}
		seen, s.point = true, len(s.digits)
	}
	if !seen {
		s.point = len(s.digits)
	}
	return len(s.digits) > 0
}

func (s *scanner) exponent() bool {
	if _, ok := s.take("eE"); !ok {
		return true
	}
	sign, _ := s.take("+-")
	n, count := 0, 0
	for c, ok := s.take(allDigits); ok; c, ok = s.take(allDigits) {
		n = 10*n + int(c-'0')
		count++
	}
	if sign == '-' {
		n = -n
	}
	s.point += n
	return 1 <= count && count <= 3
}

// Parse returns the value of a decimal, rounded to a real.
func Parse(s string) (int, api.Errno) {
	if len(s) > api.MaxNumber {
		return 0, api.ErrLong
	}
	r := &scanner{input: input{text: s}}
	for _, part := range []func() bool{r.sign, r.mantissa, r.exponent} {
		if !part() {
			return 0, api.ErrForm
		}
	}
	if r.at < len(r.text) {
		return 0, api.ErrForm
	}
	return r.value()
}

// value rounds what was read. Twice its N is computed, rounded down, and whether something remains.
func (s *scanner) value() (int, api.Errno) {
	for len(s.digits) > 0 && s.digits[0] == 0 {
		s.digits = s.digits[1:]
		s.point--
	}
	// Numbers this small are rounded to 0, and numbers this great are no reals.
	if len(s.digits) == 0 || s.point < -9 {
		return 0, api.OK
	}
	if s.point > 9 {
		return 0, api.ErrBig
	}
	front, fraction := 0, []byte{}
	i := s.point
	for ; i < 0; i++ {
		fraction = append(fraction, 0)
	}
	for n, d := range s.digits {
		if n < s.point {
			front = 10*front + int(d)
		} else {
			fraction = append(fraction, d)
		}
	}
	for n := len(s.digits); n < s.point; n++ {
		front *= 10
	}
	low, rest := double(fraction, 17)
	n := front<<17 + low
	if s.negative {
		n = (1 - n - rest) >> 1
	} else {
		n = (n + 1) >> 1
	}
	if !Is(n) {
		return 0, api.ErrBig
	}
	return n, api.OK
}

// double multiplies the decimal fraction by 2, so many times: the integer part, and 1 if a fraction remains.
func double(fraction []byte, times int) (int, int) {
	n := 0
	for range times {
		carry := byte(0)
		for i := len(fraction) - 1; i >= 0; i-- {
			d := 2*fraction[i] + carry
			fraction[i], carry = d%10, d/10
		}
		n = 2*n + int(carry)
	}
	for _, d := range fraction {
		if d != 0 {
			return n, 1
		}
	}
	return n, 0
}
