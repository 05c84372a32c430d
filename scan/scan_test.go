package scan

import (
	"math/rand"
	"slices"
	"strings"
	"testing"

	"chase/api"
)

func in(n int) api.Token     { return api.Token{Kind: api.TkInt, N: n} }
func rl(n int) api.Token     { return api.Token{Kind: api.TkReal, N: n} }
func nm(s string) api.Token  { return api.Token{Kind: api.TkName, Text: s} }
func lit(s string) api.Token { return api.Token{Kind: api.TkLiteral, Text: s} }
func imm(s string) api.Token { return api.Token{Kind: api.TkImmediate, Text: s} }
func str(s string) api.Token { return api.Token{Kind: api.TkString, Text: s} }

var open, shut = api.Token{Kind: api.TkOpen}, api.Token{Kind: api.TkClose}

// P4.1, P4.2
func TestAll(t *testing.T) {
	for src, want := range map[string][]api.Token{
		"":                   nil,
		"/a{1 .5}//b":        {lit("a"), open, in(1), rl(32768), shut, imm("b")},
		"[<< >>]%x\n(y)<41>": {nm("["), nm("<<"), nm(">>"), nm("]"), str("y"), str("A")},
		"\x81\xff\x82\x01\x00\x84\x02ab\x87\x01q":                                {in(-1), in(256), str("ab"), nm("q")},
		"\x80\xff\xff\xff\xfe\x83\x80\x00\x00\x00\x85\x00\x01x\x86\x00\x88\x011": {in(-2), rl(-1 << 31), str("x"), lit(""), imm("1")},
		"<~9jqo^~>/ ///":                      {str("Man "), lit(""), imm(""), lit("")},
		"a%b\rc%":                             {nm("a"), nm("c")},
		"a\x80\x00\x00\x00\x07b(":             nil,
		"\x87\x02<<\x87\x01[1(2)3":            {nm("<<"), nm("["), in(1), str("2"), in(3)},
		"<4>16#10 16#1G":                      {str("@"), in(16), nm("16#1G")},
		"\x84\xff" + strings.Repeat("x", 255): {str(strings.Repeat("x", 255))},
	} {
		l, at, e := All(src)
		if want == nil && src != "" {
			if l != nil || e != api.SyntaxError || at != 7 {
				t.Errorf("%q: %v %d %d", src, l, at, e)
			}
			continue
		}
		if !slices.Equal(l, want) || at != len(src) || e != api.OK {
			t.Errorf("%q: %v %d %d", src, l, at, e)
		}
	}
}

func TestErrors(t *testing.T) {
	x := strings.Repeat("x", 101)
	for _, c := range []struct {
		src    string
		at     int
		wantAt int
		e      api.Errno
	}{
		{"  )", 0, 2, api.SyntaxError}, {"a", 2, 0, api.ErrArg}, {"a", -1, 0, api.ErrArg}, {" % x", 0, 4, api.ErrNone}, {"", 0, 0, api.ErrNone},
		{" " + strings.Repeat("x", 1<<16), 0, 0, api.ErrLong}, {"1 > 2", 1, 2, api.SyntaxError}, {"<4g>", 0, 0, api.SyntaxError}, {"<", 0, 0, api.SyntaxError}, {"<~", 0, 0, api.SyntaxError}, {">", 0, 0, api.SyntaxError},
		{"\x89", 0, 0, api.SyntaxError}, {"\x9f", 0, 0, api.SyntaxError}, {"\x84\x05a", 0, 0, api.SyntaxError}, {"\x84", 0, 0, api.SyntaxError}, {"\x80\x00\x00\x00", 0, 0, api.SyntaxError},
		{"(" + strings.Repeat("x", 1001) + ")", 0, 0, api.LimitCheck}, {"<" + strings.Repeat("41", 1001) + ">", 0, 0, api.LimitCheck}, {"<~" + strings.Repeat("z", 251) + "~>", 0, 0, api.LimitCheck}, {"<~" + strings.Repeat("z", 17000) + "~>", 0, 0, api.LimitCheck},
		{x, 0, 0, api.LimitCheck}, {"/" + x, 0, 0, api.LimitCheck}, {"//" + x, 0, 0, api.LimitCheck}, {" 99999999999", 0, 1, api.LimitCheck},
		{"\x87\x65" + x, 0, 0, api.LimitCheck}, {"\x86\x65" + strings.Repeat("(", 101), 0, 0, api.LimitCheck}, {"\x86\x66" + x, 0, 0, api.SyntaxError}, {"\x87\x0212", 0, 0, api.SyntaxError}, {"\x87\x00", 0, 0, api.SyntaxError}, {"\x86\x01(", 0, 0, api.SyntaxError},
		{"\x85\x03\xe9" + strings.Repeat("x", 1001), 0, 0, api.LimitCheck}, {"\x85\xff\xff" + strings.Repeat("x", 1001), 0, 0, api.SyntaxError},
	} {
		tok, at, e := Next(c.src, c.at)
		if tok != (api.Token{}) || at != c.wantAt || e != c.e {
			t.Errorf("Next(%.20q, %d): %v %d %d", c.src, c.at, tok, at, e)
		}
	}
	if l, at, e := All("1 > 2"); l != nil || at != 2 || e != api.SyntaxError {
		t.Error(l, at, e)
	}
	if tok, at, e := Next("ab cd", 1); tok != nm("b") || at != 2 || e != api.OK {
		t.Error(tok, at, e)
	}
}

// P4.3
func TestPrintAndPack(t *testing.T) {
	if s, e := Print([]api.Token{in(1), nm("a"), str("(")}); s != `1 a (\()` || e != api.OK {
		t.Error(s, e)
	}
	if s, e := Print([]api.Token{in(1), {}}); s != "" || e != api.ErrToken {
		t.Error(s, e)
	}
	for tok, want := range map[api.Token]string{
		in(128): "\x82\x00\x80", in(-128): "\x81\x80", in(127): "\x81\x7f", in(-129): "\x82\xff\x7f", in(32768): "\x80\x00\x00\x80\x00", in(-32769): "\x80\xff\xff\x7f\xff",
		rl(-1): "\x83\xff\xff\xff\xff", str("ab"): "\x84\x02ab", str(strings.Repeat("x", 256)): "\x85\x01\x00" + strings.Repeat("x", 256),
		lit("a"): "\x86\x01a", nm("["): "\x87\x01[", imm(""): "\x88\x00", open: "{", shut: "}",
	} {
		if s, e := Pack(tok); s != want || e != api.OK {
			t.Errorf("%v: %q %d", tok, s, e)
		}
	}
	if s, e := Pack(rl(1 << 31)); s != "" || e != api.ErrBig {
		t.Error(s, e)
	}
	if s, e := Pack(nm("1")); s != "" || e != api.ErrToken {
		t.Error(s, e)
	}
}

// P4.4
func TestInverse(t *testing.T) {
	r := rand.New(rand.NewSource(1))
	for range 300 {
		var l []api.Token
		mixed := ""
		for range r.Intn(12) {
			n := r.Intn(1<<32) - 1<<31
			b := make([]byte, r.Intn(300))
			r.Read(b)
			x := []api.Token{in(n), in(n >> 20), rl(n), nm("a"), nm(">>"), lit("x"), lit(""), imm("b"), str(string(b)), open, shut}[r.Intn(11)]
			l = append(l, x)
			one, e := Pack(x)
			if e != api.OK {
				t.Fatal(e)
			}
			if r.Intn(2) == 0 {
				one, _ = Print([]api.Token{x})
				one += []string{" ", "\n", "%c\n", "\x00"}[r.Intn(4)]
			}
			mixed += one
		}
		text, _ := Print(l)
		for _, src := range []string{text, mixed} {
			got, at, e := All(src)
			if !slices.Equal(got, l) || at != len(src) || e != api.OK {
				t.Errorf("%q: %v, want %v", src, got, l)
			}
		}
	}
}
