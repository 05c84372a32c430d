package ascii

import (
	"math/rand"
	"strings"
	"testing"

	"chase/api"
)

type result struct {
	s  string
	at int
	e  api.Errno
}

func of(s string, at int, e api.Errno) result { return result{s, at, e} }

func is(t *testing.T, what string, got, want result) {
	t.Helper()
	if got != want {
		t.Errorf("%s: %q %d %d; want %q %d %d", what, got.s, got.at, got.e, want.s, want.at, want.e)
	}
}

func enc(s string, e api.Errno) result { return result{s, 0, e} }

// P2.1
func TestHex(t *testing.T) {
	is(t, "Hex", enc(Hex("\x00\xff\x10")), enc("00FF10>", 0))
	is(t, "Hex", enc(Hex("")), enc(">", 0))
	is(t, "Unhex", of(Unhex("4a 4B5>x")), result{"JKP", 7, 0})
	is(t, "Unhex", of(Unhex("\x00\t\n\f\r 4\x001>")), result{"A", 10, 0})
	for _, s := range []string{"4g>", "41", "", "4\x0b1>", "<41>"} {
		is(t, s, of(Unhex(s)), result{"", 0, api.ErrForm})
	}
	is(t, "half", enc(Hex(strings.Repeat("a", 32767))), enc(strings.Repeat("61", 32767)+">", 0))
	is(t, "too long", enc(Hex(strings.Repeat("a", 32768))), enc("", api.ErrLong))
	is(t, "too long", enc(Hex(strings.Repeat("a", 1<<17))), enc("", api.ErrLong))
	is(t, "too long", of(Unhex(strings.Repeat("a", 65536)+">")), result{"", 0, api.ErrLong})
	is(t, "longest", of(Unhex(strings.Repeat(" ", 65535)+">")), result{"", 65536, 0})
}

// P2.2
func TestBase85(t *testing.T) {
	is(t, "Base85", enc(Base85("Man ")), enc("9jqo^~>", 0))
	is(t, "Base85", enc(Base85("\x00\x00\x00\x00\x00")), enc("z!!~>", 0))
	is(t, "Base85", enc(Base85("\x00\x00\x00")), enc("!!!!~>", 0))
	is(t, "Base85", enc(Base85("")), enc("~>", 0))
	is(t, "Unbase85", of(Unbase85("9jqo^ z~ >.")), result{"Man \x00\x00\x00\x00", 10, 0})
	is(t, "Unbase85", of(Unbase85("!!~>")), result{"\x00", 4, 0})
	is(t, "greatest", of(Unbase85("s8W-!~>")), result{"\xff\xff\xff\xff", 7, 0})
	for _, s := range []string{"!~>", "!z!!!~>", "s8W-#~>", "!!!!!~", "!!!!!~x>", "v!!!!~>", "uu~>", "", "~", "!!!!!"} {
		is(t, s, of(Unbase85(s)), result{"", 0, api.ErrForm})
	}
	is(t, "too much", of(Unbase85(strings.Repeat("z", 16385)+"~>")), result{"", 0, api.ErrLong})
	is(t, "much", of(Unbase85(strings.Repeat("z", 16384)+"~>")), result{strings.Repeat("\x00", 65536), 16386, 0})
	is(t, "much and malformed", of(Unbase85(strings.Repeat("z", 16385)+"~")), result{"", 0, api.ErrForm})
	is(t, "too long", of(Unbase85("~>"+strings.Repeat(" ", 65535))), result{"", 0, api.ErrLong})
	is(t, "too long", enc(Base85(strings.Repeat("a", 65536))), enc("", api.ErrLong))
	is(t, "zeros", enc(Base85(strings.Repeat("\x00", 65536))), enc(strings.Repeat("z", 16384)+"~>", 0))
}

// P2.3
func TestInverse(t *testing.T) {
	r := rand.New(rand.NewSource(1))
	for range 300 {
		b := make([]byte, r.Intn(30))
		for i := range b {
			b[i] = byte(r.Intn(256)) * byte(r.Intn(2))
		}
		s := string(b)
		for _, c := range []struct {
			in  func(string) (string, api.Errno)
			out func(string) (string, int, api.Errno)
		}{{Hex, Unhex}, {Base85, Unbase85}} {
			x, e := c.in(s)
			if e != api.OK {
				t.Fatal(e)
			}
			is(t, x, of(c.out(x+"z~>")), result{s, len(x), 0})
			k := r.Intn(len(x) + 1)
			is(t, x, of(c.out(x[:k]+" \n"+x[k:])), result{s, len(x) + 2*min(1, len(x)-k), 0})
			is(t, x, of(c.out(x[:min(k, len(x)-1)])), result{"", 0, api.ErrForm})
		}
	}
}
