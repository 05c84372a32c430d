package lex

import (
	"iter"
	"strings"

	"chase/api"
	"chase/real"
)

// number is the text of a number.
type number struct {
	text string
}

// digitValues yields the values of the digits of s, or -1 for what is none in the base.
func digitValues(s string, base int) iter.Seq[int] {
	return func(yield func(int) bool) {
		for i := range len(s) {
			d, c := -1, s[i]
			switch {
			case '0' <= c && c <= '9':
				d = int(c - '0')
			case 'a' <= c && c <= 'z':
				d = int(c-'a') + 10
			case 'A' <= c && c <= 'Z':
				d = int(c-'A') + 10
			}
			if d >= base {
				d = -1
			}
			if !yield(d) {
				return
			}
		}
	}
}

// digits returns the number that s denotes in a base, or a number above MaxInt + 1 if it is greater than that; ok is false if s is none.
func digits(s string, base int) (n int, ok bool) {
	for d := range digitValues(s, base) {
		if d < 0 {
			return 0, false
		}
		n = min(base*n+d, api.MaxInt+2)
	}
	return n, s != ""
}

func unsigned(s string) (rest string, negative bool) {
	if s != "" && (s[0] == '+' || s[0] == '-') {
		return s[1:], s[0] == '-'
	}
	return s, false
}

// within returns the int n, if there is one, for a text that is not too long.
func (t number) within(n int) (api.Token, api.Errno) {
	if len(t.text) > api.MaxNumber || n < api.MinInt || n > api.MaxInt {
		return api.Token{}, api.LimitCheck
	}
	return api.Token{Kind: api.TkInt, N: n}, api.OK
}

func (t number) decimal() (api.Token, api.Errno) {
	s, negative := unsigned(t.text)
	n, ok := digits(s, 10)
	if !ok {
		return api.Token{}, api.ErrForm
	}
	if negative {
		n = -n
	}
	return t.within(n)
}

func (t number) radix() (api.Token, api.Errno) {
	front, back, ok := strings.Cut(t.text, "#")
	if !ok || len(front) > 2 {
		return api.Token{}, api.ErrForm
	}
	base, ok := digits(front, 10)
	if !ok || base < 2 || base > 36 {
		return api.Token{}, api.ErrForm
	}
	n, ok := digits(back, base)
	if !ok {
		return api.Token{}, api.ErrForm
	}
	return t.within(n)
}

func (t number) real() (api.Token, api.Errno) {
	if !isReal(t.text) {
		return api.Token{}, api.ErrForm
	}
	n, e := real.Parse(t.text)
	if e != api.OK {
		return api.Token{}, api.LimitCheck
	}
	return api.Token{Kind: api.TkReal, N: n}, api.OK
}

// isReal reports whether s is a decimal of any length that contains a period or an exponent. (Parse does not look at texts that are too long.)
func isReal(s string) bool {
	s, _ = unsigned(s)
	front, power := s, ""
	at := strings.IndexAny(s, "eE")
	if at >= 0 {
		front, power = s[:at], s[at+1:]
		power, _ = unsigned(power)
		if _, ok := digits(power, 10); !ok || len(power) > 3 {
			return false
		}
	}
	whole, fraction, period := strings.Cut(front, ".")
	if at < 0 && !period {
		return false
	}
	_, ok := digits(whole+fraction, 10)
	return ok
}

// Number returns the token of a number text.
func Number(s string) (api.Token, api.Errno) {
	t := number{s}
	var token api.Token
	e := api.ErrForm
attempts:
	for _, attempt := range []func() (api.Token, api.Errno){t.decimal, t.radix, t.real} {
		token, e = attempt()
		if e != api.ErrForm {
			break attempts
		}
	}
	return token, e
}
