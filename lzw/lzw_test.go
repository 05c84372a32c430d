package lzw

import (
	"math/rand"
	"strings"
	"testing"

	"chase/api"
)

func codesOf(l ...int) string {
	w := &writer{}
	for _, c := range l {
		w.write(c)
	}
	return w.finish()
}

// P6.1
func TestEncode(t *testing.T) {
	for s, want := range map[string]string{
		"": "\x80\x40\x40", "aaaa": "\x80\x18\x60\x46\x18\x08", "abab": codesOf(256, 97, 98, 258, 257), "aaa": codesOf(256, 97, 258, 257),
	} {
		if got, e := Encode(s); got != want || e != api.OK {
			t.Errorf("Encode(%q): %x %d, want %x", s, got, e, want)
		}
	}
	if _, e := Encode(strings.Repeat("a", 65537)); e != api.ErrLong {
		t.Error(e)
	}
	b := make([]byte, 65536)
	rand.New(rand.NewSource(1)).Read(b)
	if got, e := Encode(string(b)); got != "" || e != api.ErrLong {
		t.Error(e)
	}
	a, _ := Encode(strings.Repeat("a", 65536))
	if len(a) > 600 {
		t.Errorf("%d octets for equal octets", len(a))
	}
}

// The longest prefix that a code can denote, by the definition.
func slowCodes(s string) []int {
	l, j := []int{256}, 0
	strs := map[int]string{}
	u := ""
	for s != "" {
		if j == 3838 {
			l, j, u = append(l, 256), 0, ""
			strs = map[int]string{}
		}
		if j > 0 {
			strs[257+j] = u + s[:1]
		}
		code, n := int(s[0]), 1
		for c, x := range strs {
			if strings.HasPrefix(s, x) && len(x) > n {
				code, n = c, len(x)
			}
		}
		l, u, s, j = append(l, code), s[:n], s[n:], j+1
	}
	return append(l, 257)
}

func TestLongestPrefix(t *testing.T) {
	r := rand.New(rand.NewSource(2))
	for range 200 {
		b := make([]byte, r.Intn(200))
		for i := range b {
			b[i] = 'a' + byte(r.Intn(3))
		}
		if got, _ := Encode(string(b)); got != codesOf(slowCodes(string(b))...) {
			t.Errorf("%q", b)
		}
	}
	b := make([]byte, 6000)
	r.Read(b)
	if got, _ := Encode(string(b)); got != codesOf(slowCodes(string(b))...) {
		t.Error("a clear when the codes run out")
	}
}

// P6.2
func TestDecode(t *testing.T) {
	for s, want := range map[string]struct {
		s  string
		at int
	}{"\x80\x40\x40\x07": {"", 3}, "\x80\x18\x60\x46\x18\x08": {"aaaa", 6}, codesOf(97, 257): {"a", 3}, codesOf(97, 98, 258, 256, 256, 99, 257): {"ababc", 8}, codesOf(257): {"", 2}} {
		if got, at, e := Decode(s); got != want.s || at != want.at || e != api.OK {
			t.Errorf("Decode(%x): %q %d %d", s, got, at, e)
		}
	}
	for _, s := range []string{codesOf(258, 257), codesOf(256), codesOf(256, 258, 257), codesOf(97, 259, 257), codesOf(97, 258, 260, 257), "\x80\x40\x41", "", "\x80"} {
		if got, at, e := Decode(s); got != "" || at != 0 || e != api.ErrForm {
			t.Errorf("Decode(%x): %q %d %d", s, got, at, e)
		}
	}
	if _, _, e := Decode(strings.Repeat("\x00", 65537)); e != api.ErrLong {
		t.Error(e)
	}
}

func TestManyCodes(t *testing.T) {
	var l []int
	for range 3838 {
		l = append(l, 'x')
	}
	if got, _, e := Decode(codesOf(append(l, 257)...)); len(got) != 3838 || e != api.OK {
		t.Error(len(got), e)
	}
	if got, _, e := Decode(codesOf(append(l, 4095, 257)...)); got != "" || e != api.ErrForm {
		t.Error(len(got), e)
	}
	if got, _, e := Decode(codesOf(append(l, 'x', 256)...) + "\x80\x80"); got != "" || e != api.ErrForm {
		t.Error(len(got), e)
	}
	l = []int{'x'}
	for i := range 3000 {
		l = append(l, 258+i)
	}
	if got, _, e := Decode(codesOf(append(l, 257)...)); got != "" || e != api.ErrLong {
		t.Error(len(got), e)
	}
	if got, _, e := Decode(codesOf(l...)); got != "" || e != api.ErrForm {
		t.Error(len(got), e)
	}
}

// P6.3
func TestInverse(t *testing.T) {
	r := rand.New(rand.NewSource(3))
	for i := range 300 {
		b := make([]byte, r.Intn(400))
		if i < 6 {
			b = make([]byte, 40000)
		}
		k := 1 + r.Intn(256)
		for i := range b {
			b[i] = byte(r.Intn(k))
		}
		c, e := Encode(string(b))
		if e != api.OK {
			t.Fatal(e)
		}
		if got, at, e := Decode(c + "x"); got != string(b) || at != len(c) || e != api.OK {
			t.Errorf("%d octets: %d", len(b), e)
		}
		if _, _, e := Decode(c[:r.Intn(len(c))]); e != api.ErrForm {
			t.Error(e)
		}
	}
}
