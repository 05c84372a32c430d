package font

import (
	"math/rand"
	"reflect"
	"strconv"
	"strings"
	"testing"

	"chase/api"
	"chase/cipher"
)

// example is the font F of the chapter's examples.
func example() api.Font {
	return api.Font{Name: "F", Encoding: []api.Code{{Octet: 65, Name: "A"}}, Chars: []api.Char{{Name: ".notdef", Code: "\x8b\x8b\x0d\x0e"}, {Name: "A", Code: "\x8b\xef\x0d\x0e"}}}
}

func with(f func(*api.Font)) api.Font {
	x := example()
	f(&x)
	return x
}

// same compares fonts; empty lists are equal to nil ones.
func same(a, b api.Font) bool {
	for _, f := range []*api.Font{&a, &b} {
		if len(f.Encoding) == 0 {
			f.Encoding = nil
		}
		if len(f.Subrs) == 0 {
			f.Subrs = nil
		}
	}
	return reflect.DeepEqual(a, b)
}

func many(n int) []api.Char {
	l := []api.Char{{Name: ".notdef"}}
	for len(l) < n {
		l = append(l, api.Char{Name: "c" + strconv.Itoa(len(l))})
	}
	return l
}

// P35.1
func TestCheckAndPrint(t *testing.T) {
	long := strings.Repeat("x", 100)
	for i, f := range []api.Font{example(), with(func(f *api.Font) { f.Encoding = nil }), with(func(f *api.Font) { f.Name = long }), with(func(f *api.Font) { f.Chars = many(100) }), with(func(f *api.Font) { f.Subrs = make([]string, 200) }), with(func(f *api.Font) { f.Subrs = []string{strings.Repeat("x", 4000)} }), with(func(f *api.Font) { f.Encoding = []api.Code{{Octet: 0, Name: "x"}, {Octet: 255, Name: "~!"}} })} {
		s, e := Print(f)
		if Check(f) != api.OK || e != api.OK || len(s) == 0 {
			t.Error(i, e)
		}
	}
	var all []api.Code
	for i := range 256 {
		all = append(all, api.Code{Octet: i, Name: "A"})
	}
	if Check(with(func(f *api.Font) { f.Encoding = all })) != api.OK {
		t.Error("a whole encoding")
	}
	for i, f := range []api.Font{
		{}, with(func(f *api.Font) { f.Name = "" }), with(func(f *api.Font) { f.Name = "a b" }), with(func(f *api.Font) { f.Name = "a\x7f" }), with(func(f *api.Font) { f.Name = long + "x" }), with(func(f *api.Font) { f.Encoding = append(f.Encoding, f.Encoding...) }), with(func(f *api.Font) { f.Encoding[0].Octet = 256 }), with(func(f *api.Font) { f.Encoding[0].Octet = -1 }), with(func(f *api.Font) { f.Encoding[0].Name = "" }),
		with(func(f *api.Font) { f.Encoding = []api.Code{{Octet: 5, Name: "x"}, {Octet: 4, Name: "y"}} }), with(func(f *api.Font) { f.Subrs = make([]string, 201) }), with(func(f *api.Font) { f.Chars = many(101) }), with(func(f *api.Font) { f.Chars = f.Chars[1:] }), with(func(f *api.Font) { f.Chars = append(f.Chars, f.Chars[1]) }), with(func(f *api.Font) { f.Chars[1].Name = "" }), with(func(f *api.Font) { f.Chars[1].Name = "a\n" }),
		with(func(f *api.Font) { f.Subrs = []string{strings.Repeat("x", 4001)} }), with(func(f *api.Font) { f.Chars[1].Code = strings.Repeat("x", 4001) }), with(func(f *api.Font) { f.Subrs = []string{strings.Repeat("x", 4000), strings.Repeat("x", 4000)} }), with(func(f *api.Font) {
			f.Chars = many(100)
			f.Chars[5].Code = strings.Repeat("x", 4000)
			f.Subrs = make([]string, 200)
		}),
	} {
		s, e := Print(f)
		n, e2 := Name(f, 999)
		g, e3 := Glyph(f, 999)
		if Check(f) != api.ErrFont || s != "" || e != api.ErrFont || n != "" || e2 != api.ErrFont || !reflect.DeepEqual(g, api.Glyph{}) || e3 != api.ErrFont {
			t.Error(i, e, e2, e3)
		}
	}
	s, _ := Print(example())
	lines := strings.SplitAfter(s, "\n")
	secret, _ := cipher.Encrypt("\x8b\x8b\x0d\x0e", api.KeyGlyph)
	if len(lines) != 4 || lines[0] != "font F\n" || lines[1] != "code 65 A\n" || !strings.HasPrefix(lines[2], "private ") || lines[3] != "" {
		t.Errorf("%q", lines)
	}
	plain := decrypted(strings.TrimSpace(lines[2][8:]), api.KeyFont)
	if want := "char .notdef " + hex(secret) + "\nchar A "; !strings.HasPrefix(plain, want) {
		t.Errorf("%q, want %q", plain, want)
	}
	// The greatest text: each octet takes four digits.
	f := with(func(f *api.Font) { f.Subrs = []string{strings.Repeat("x", 3000)} })
	s, _ = Print(f)
	f.Chars[1].Code += strings.Repeat("x", (api.MaxFontText-len(s))/4)
	if s, e := Print(f); len(s) <= api.MaxFontText-4 || len(s) > api.MaxFontText || e != api.OK {
		t.Error(len(s), e)
	}
	f.Chars[1].Code += "x"
	if Check(f) != api.ErrFont {
		t.Error("a text that is too long")
	}
}

func hex(s string) string {
	out := ""
	for i := range len(s) {
		d := strconv.FormatInt(int64(s[i]), 16)
		out += strings.ToUpper(("0" + d)[len(d)-1:])
	}
	return out
}

func secret(s string, key int) string {
	c, _ := cipher.Encrypt(s, key)
	return hex(c)
}

// P35.2
func TestParse(t *testing.T) {
	s, _ := Print(example())
	lower := strings.Replace(s, strings.Split(s, "private ")[1], strings.ToLower(strings.Split(s, "private ")[1]), 1)
	for _, text := range []string{s, lower} {
		if f, e := Parse(text); !same(f, example()) || e != api.OK {
			t.Error(f, e)
		}
	}
	fontOf := func(private string) string { return "font F\nprivate " + secret(private, api.KeyFont) + "\n" }
	code := secret("\x8b", api.KeyGlyph)
	for i, text := range []string{
		"", s[:len(s)-1], "font F\ncode 65 A\n", s + "\n", s + s, "\n" + s, "font F G\n" + s[7:], "font  F\n" + s[7:], "Font F\n" + s[7:], strings.Replace(s, "65", "065", 1), strings.Replace(s, "65", "+65", 1), strings.Replace(s, "65", "256", 1), strings.Replace(s, "65", "", 1), strings.Replace(s, "65 A", "65", 1), strings.Replace(s, "65 A", "65 A ", 1),
		strings.Replace(s, "private ", "private  ", 1), strings.Replace(s, "private ", "private 0", 1), strings.Replace(s, "private ", "private 0g", 1), strings.Replace(s, "private ", "private +1", 1), strings.Replace(s, "code 65 A\n", "code 65 A\ncode 65 B\n", 1), "font F\nprivate \n", "font F\nprivate 0000\n", fontOf(""), fontOf("char .notdef " + code), fontOf("char A " + code + "\n"),
		fontOf("char .notdef " + code + "\nsubr " + code + "\n"), fontOf("char .notdef\n"), fontOf("char .notdef \n"), fontOf("char .notdef " + code + " \n"), fontOf("\nchar .notdef " + code + "\n"), fontOf("char .notdef " + code + "\nchar .notdef " + code + "\n"), fontOf("char .notdef " + code[1:] + "\n"), fontOf("subr\nchar .notdef " + code + "\n"), fontOf("CHAR .notdef " + code + "\n"),
	} {
		if f, e := Parse(text); !reflect.DeepEqual(f, api.Font{}) || e != api.ErrForm {
			t.Error(i, f, e)
		}
	}
	if f, e := Parse(fontOf("subr " + code + "\nsubr " + strings.ToLower(code) + "\nchar .notdef " + code + "\n")); e != api.OK || !same(f, api.Font{Name: "F", Subrs: []string{"\x8b", "\x8b"}, Chars: []api.Char{{Name: ".notdef", Code: "\x8b"}}}) {
		t.Error(f, e)
	}
	if f, e := Parse(strings.Repeat("x", 20001)); !reflect.DeepEqual(f, api.Font{}) || e != api.ErrLong {
		t.Error(e)
	}
	if _, e := Parse(strings.Repeat("x", 20000)); e != api.ErrForm {
		t.Error(e)
	}
	// The first octets of what is decrypted are free: another lead, and what follows is encrypted on.
	free := encryptWith("char .notdef "+encryptWith("\x8b", "wxyz", api.KeyGlyph)+"\n", "abcd", api.KeyFont)
	if f, e := Parse("font F\nprivate " + free + "\n"); e != api.OK || f.Chars[0].Code != "\x8b" {
		t.Error(f, e)
	}
}

// encryptWith encrypts with other first octets than 0.
func encryptWith(s, lead string, key int) string {
	r, out := uint16(key), ""
	for _, p := range []byte(lead + s) {
		c := p ^ byte(r>>8)
		r = (uint16(c)+r)*52845 + 22719
		out += string([]byte{c})
	}
	return hex(out)
}

// P35.3
func TestNameAndGlyph(t *testing.T) {
	f := with(func(f *api.Font) { f.Encoding = append(f.Encoding, api.Code{Octet: 70, Name: "Q"}) })
	for octet, want := range map[int]string{65: "A", 66: ".notdef", 70: ".notdef", 0: ".notdef", 255: ".notdef"} {
		n, e := Name(f, octet)
		g, e2 := Glyph(f, octet)
		width := 0
		if want == "A" {
			width = 100
		}
		if n != want || e != api.OK || g.Width != width || e2 != api.OK {
			t.Error(octet, n, e, g, e2)
		}
	}
	for _, octet := range []int{256, -1} {
		n, e := Name(f, octet)
		_, e2 := Glyph(f, octet)
		if n != "" || e != api.ErrArg || e2 != api.ErrArg {
			t.Error(octet, e, e2)
		}
	}
	f.Chars[1].Code = "\x0e"
	if _, e := Glyph(f, 65); e != api.InvalidFont {
		t.Error(e)
	}
	f.Subrs = []string{"\x8b\xef\x0d\x0e"}
	f.Chars[1].Code = "\x8b\x0a"
	if g, e := Glyph(f, 65); g.Width != 100 || e != api.OK {
		t.Error(g, e)
	}
}

// P35.4
func TestConsequences(t *testing.T) {
	r := rand.New(rand.NewSource(1))
	octets := func() string {
		b := make([]byte, r.Intn(20))
		r.Read(b)
		return string(b)
	}
	for range 300 {
		f := api.Font{Name: "N" + strconv.Itoa(r.Intn(99)), Chars: many(1 + r.Intn(6))}
		for i := range f.Chars {
			f.Chars[i].Code = octets()
		}
		for range r.Intn(4) {
			f.Subrs = append(f.Subrs, octets())
		}
		for i := range 256 {
			if r.Intn(40) == 0 {
				f.Encoding = append(f.Encoding, api.Code{Octet: i, Name: "c" + strconv.Itoa(r.Intn(7))})
			}
		}
		s, e := Print(f)
		back, e2 := Parse(s)
		if e != api.OK || e2 != api.OK || !same(back, f) || Check(back) != api.OK {
			t.Error(f, e, e2)
		}
		// A change somewhere: what is parsed is valid, and printing it changes nothing more.
		b := []byte(s)
		b[r.Intn(len(b))] = "0fF \nAx"[r.Intn(7)]
		if back, e := Parse(string(b)); e == api.OK {
			again, _ := Print(back)
			twice, e := Parse(again)
			if Check(back) != api.OK || e != api.OK || !same(twice, back) || len(again) != len(b) {
				t.Errorf("%q", b)
			}
		}
	}
}
