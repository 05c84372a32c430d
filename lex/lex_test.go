package lex

import (
	"math/rand"
	"strings"
	"testing"

	"chase/api"
)

type answer struct {
	t api.Token
	e api.Errno
}

func got(t api.Token, e api.Errno) answer { return answer{t, e} }

func num(n int) answer  { return answer{api.Token{Kind: api.TkInt, N: n}, 0} }
func rl(n int) answer   { return answer{api.Token{Kind: api.TkReal, N: n}, 0} }
func fail(e int) answer { return answer{e: api.Errno(e)} }
func name(s string) answer {
	return answer{api.Token{Kind: api.TkName, Text: s}, 0}
}

// P3.1
func TestNumber(t *testing.T) {
	for c := range 256 {
		want := !(strings.IndexByte("\x00\t\n\f\r ()<>[]{}/%", byte(c)) >= 0 || 128 <= c && c <= 159)
		if Regular(byte(c)) != want {
			t.Errorf("Regular(%d)", c)
		}
	}
	form, limit := fail(5), fail(26)
	for s, want := range map[string]answer{
		"-007": num(-7), "+5": num(5), "16#Ff": num(255), "2#102": form, "3.": rl(196608), "1e2": rl(6553600), "+": form, "37#1": form,
		"2147483648": limit, "-2147483648": num(-1 << 31), "2147483647": num(1<<31 - 1), "-2147483649": limit, "36#zzzzzz": limit, "40000.5": limit,
		"": form, "1a": form, "1#0": form, "02#11": num(3), "002#11": form, "#1": form, "16#": form, "16#-1": form, "+16#1": form, "16#1#1": form,
		".": form, "1e": form, "1.e+3": rl(1000 << 16), "1e1234": form, "-.5": rl(-32768), ".e1": form, "1e999": limit, "32768.0": rl(1 << 31), "1.2.3": form, "1e2.": form,
		"36#zik0zj": num(1<<31 - 1), "36#zik0zk": limit, strings.Repeat("0", 40): num(0), strings.Repeat("0", 41): limit,
		"." + strings.Repeat("0", 40): limit, "." + strings.Repeat("0", 39): rl(0), "2#" + strings.Repeat("0", 39): limit, strings.Repeat("0", 40) + "x": form,
		strings.Repeat("9", 200): limit, strings.Repeat("9", 200) + "e": form,
	} {
		if g := got(Number(s)); g != want {
			t.Errorf("Number(%q): %v, want %v", s, g, want)
		}
	}
}

// P3.2
func TestWord(t *testing.T) {
	for s, want := range map[string]answer{
		"abc": name("abc"), "1a": name("1a"), "12": num(12), "a(b": fail(5), "": fail(5), "a b": fail(5), "\x80": fail(5), "\xa0\x7f": name("\xa0\x7f"),
		"[": fail(5), "<<": fail(5), strings.Repeat("a", 100): name(strings.Repeat("a", 100)), strings.Repeat("a", 101): fail(26),
		"99999999999": fail(26), strings.Repeat("a", 101) + "(": fail(5), "-": name("-"), "37#1": name("37#1"),
	} {
		if g := got(Word(s)); g != want {
			t.Errorf("Word(%q): %v, want %v", s, g, want)
		}
	}
}

// P3.3
func TestQuote(t *testing.T) {
	if s := Quote("a(\\\n\xc8"); s != `(a\(\\\012\310)` {
		t.Error(s)
	}
	if s := Quote(strings.Repeat(" ", 5000)); len(s) != 5002 {
		t.Error(len(s))
	}
	type u struct {
		s  string
		at int
		e  api.Errno
	}
	for s, want := range map[string]u{
		`(a(b)\c\063\n)x`: {"a(b)c3\n", 14, 0}, `(\1234)`: {"S4", 7, 0}, "(()": {"", 0, 5}, "": {"", 0, 5}, "x": {"", 0, 5}, `(\)`: {"", 0, 5}, `(\`: {"", 0, 5}, "(\\0": {"", 0, 5},
		"(\r\n\r\n\n\r)": {"\n\n\n\n", 8, 0}, "(a\\\r\nb\\\nc\\\rd)": {"abcd", 13, 0}, `(\r\t\b\f\(\)\\\8)`: {"\r\t\b\f()\\8", 18, 0}, `(\777\1)`: {"\xff\x01", 8, 0}, "(\\18)": {"\x018", 5, 0},
		"(" + strings.Repeat("x", 1000) + ")": {strings.Repeat("x", 1000), 1002, 0}, "(" + strings.Repeat("x", 1001) + ")": {"", 0, 26}, "(" + strings.Repeat("x", 1001): {"", 0, 5},
	} {
		s2, at, e := Unquote(s)
		if (u{s2, at, e}) != want {
			t.Errorf("Unquote(%q): %q %d %d", s, s2, at, e)
		}
	}
}

// P3.4
func TestCheck(t *testing.T) {
	good := map[api.Token]string{
		{Kind: api.TkInt, N: -12}: "-12", {Kind: api.TkInt, N: 1<<31 - 1}: "2147483647", {Kind: api.TkReal, N: 1 << 31}: "32768.0", {Kind: api.TkName, Text: "a"}: "a",
		{Kind: api.TkName, Text: "<<"}: "<<", {Kind: api.TkName, Text: "]"}: "]", {Kind: api.TkLiteral}: "/", {Kind: api.TkImmediate, Text: "12"}: "//12",
		{Kind: api.TkString, Text: "\x00)"}: `(\000\))`, {Kind: api.TkOpen}: "{", {Kind: api.TkClose}: "}",
	}
	for x, want := range good {
		if s, e := Text(x); s != want || e != api.OK || Check(x) != api.OK {
			t.Errorf("%v: %q %d", x, s, e)
		}
	}
	for _, x := range []api.Token{
		{}, {Kind: 9}, {Kind: -1}, {Kind: api.TkInt, N: 1 << 31}, {Kind: api.TkInt, Text: "1"}, {Kind: api.TkReal, N: 1<<31 + 1}, {Kind: api.TkName}, {Kind: api.TkName, Text: "12"},
		{Kind: api.TkName, Text: "99999999999"}, {Kind: api.TkName, Text: "a", N: 1}, {Kind: api.TkName, Text: "a/"}, {Kind: api.TkName, Text: strings.Repeat("a", 101)}, {Kind: api.TkName, Text: "[]"},
		{Kind: api.TkLiteral, Text: "["}, {Kind: api.TkLiteral, Text: strings.Repeat("a", 101)}, {Kind: api.TkImmediate, N: 1}, {Kind: api.TkString, Text: strings.Repeat("a", 1001)}, {Kind: api.TkString, N: 1}, {Kind: api.TkOpen, Text: "{"}, {Kind: api.TkClose, N: 1},
	} {
		if s, e := Text(x); s != "" || e != api.ErrToken || Check(x) != api.ErrToken {
			t.Errorf("%v: %q %d", x, s, e)
		}
	}
}

// P3.5
func TestInverse(t *testing.T) {
	r := rand.New(rand.NewSource(1))
	for range 500 {
		n := r.Intn(1<<32) - 1<<31
		for _, x := range []api.Token{{Kind: api.TkInt, N: n}, {Kind: api.TkReal, N: n}, {Kind: api.TkName, Text: "a" + string(rune('a'+r.Intn(26)))}} {
			s, _ := Text(x)
			if g := got(Word(s)); g != (answer{x, 0}) {
				t.Errorf("%q: %v", s, g)
			}
		}
		b := make([]byte, r.Intn(40))
		for i := range b {
			b[i] = byte(r.Intn(256))
		}
		q := Quote(string(b))
		if s, at, e := Unquote(q + ")("); s != string(b) || at != len(q) || e != 0 {
			t.Errorf("%q", q)
		}
	}
	if s, at, e := Unquote("(a(b(c))\x80)"); s != "a(b(c))\x80" || at != 10 || e != 0 {
		t.Error(s, at, e)
	}
}
