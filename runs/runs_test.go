package runs

import (
	"math/rand"
	"strings"
	"testing"

	"chase/api"
)

// P5.1
func TestEncode(t *testing.T) {
	x := strings.Repeat
	for s, want := range map[string]string{
		"aaab": "\xfea\x00b\x80", "aab": "\x02aab\x80", "": "\x80", x("x", 129): "\x81x\x00x\x80", x("x", 130): "\x81x\xffx\x80", "abccccd": "\x01ab\xfdc\x00d\x80",
		x("x", 129) + "ab": "\x81x\x02xab\x80", x("x", 256): "\x81x\x81x\x80", x("ab", 64): "\x7f" + x("ab", 64) + "\x80", x("ab", 65): "\x7f" + x("ab", 64) + "\x01ab\x80",
		"aabb" + "ccc": "\x03aabb\xfec\x80",
	} {
		if got, e := Encode(s); got != want || e != api.OK {
			t.Errorf("Encode(%q): %q %d, want %q", s, got, e, want)
		}
	}
	if got, e := Encode(x("a", 65537)); got != "" || e != api.ErrLong {
		t.Error(e)
	}
	if got, e := Encode(x("ab", 32768)); got != "" || e != api.ErrLong {
		t.Error(e)
	}
}

// P5.2
func TestDecode(t *testing.T) {
	for s, want := range map[string]struct {
		s  string
		at int
	}{"\xffa\x00b\x80x": {"aab", 5}, "\x80": {"", 1}, "\x81x\x80": {strings.Repeat("x", 128), 3}} {
		if got, at, e := Decode(s); got != want.s || at != want.at || e != api.OK {
			t.Errorf("Decode(%q): %q %d %d", s, got, at, e)
		}
	}
	many := strings.Repeat("\x81x", 513)
	for s, want := range map[string]api.Errno{
		"\x02ab": api.ErrForm, "\x81": api.ErrForm, "": api.ErrForm, "\x00": api.ErrForm, "\x01a\x80": api.ErrForm, "\x00a": api.ErrForm,
		many + "\x80": api.ErrLong, many: api.ErrForm, "\x80" + strings.Repeat("a", 65536): api.ErrLong,
	} {
		if got, at, e := Decode(s); got != "" || at != 0 || e != want {
			t.Errorf("Decode(%.9q): %d %d", s, at, e)
		}
	}
	if got, at, e := Decode(many[:1024] + "\x80"); len(got) != 65536 || at != 1025 || e != api.OK {
		t.Error(len(got), at, e)
	}
}

// P5.3
func TestInverse(t *testing.T) {
	r := rand.New(rand.NewSource(1))
	for range 300 {
		var b []byte
		for range r.Intn(60) {
			b = append(b, strings.Repeat(string(rune('a'+r.Intn(3))), 1+r.Intn(1+r.Intn(300)))...)
		}
		c, e := Encode(string(b))
		if e != api.OK || len(c) > len(b)+(len(b)+127)/128+1 {
			t.Fatal(e, len(c), len(b))
		}
		if got, at, e := Decode(c + "\x80x"); got != string(b) || at != len(c) || e != api.OK {
			t.Errorf("%q", b)
		}
		if _, _, e := Decode(c[:r.Intn(len(c))]); e != api.ErrForm {
			t.Errorf("prefix of %q: %d", c, e)
		}
	}
}
