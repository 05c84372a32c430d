package filter

import (
	"math/rand"
	"strings"
	"testing"

	"chase/api"
)

func named(l ...string) []api.Filter {
	var out []api.Filter
	for _, n := range l {
		out = append(out, api.Filter{Name: n})
	}
	return out
}

// P9.1
func TestCheck(t *testing.T) {
	for _, f := range append(named("hex", "base85", "runs", "lzw"), api.Filter{Name: "fax", W: 1}, api.Filter{Name: "fax", W: 128}, api.Filter{Name: "cosine", W: 1, H: 128, Q: 255}, api.Filter{Name: "cosine", W: 128, H: 1, Q: 1}) {
		if e := Check(f); e != api.OK {
			t.Error(f, e)
		}
	}
	for _, f := range []api.Filter{
		{}, {Name: "zip"}, {Name: "Hex"}, {Name: "hex", W: 1}, {Name: "runs", H: 1}, {Name: "lzw", Q: 1}, {Name: "base85", W: -1}, {Name: "fax"}, {Name: "fax", W: 129}, {Name: "fax", W: 1, H: 1}, {Name: "fax", W: 1, Q: 1},
		{Name: "cosine", W: 1, H: 1}, {Name: "cosine", W: 129, H: 1, Q: 1}, {Name: "cosine", W: 1, H: 0, Q: 1}, {Name: "cosine", W: 1, H: 1, Q: 256},
	} {
		if e := Check(f); e != api.ErrFilter {
			t.Error(f, e)
		}
	}
}

// P9.2
func TestChains(t *testing.T) {
	is := func(s string, e api.Errno, want string, code api.Errno) {
		t.Helper()
		if s != want || e != code {
			t.Errorf("%q %d, want %q %d", s, e, want, code)
		}
	}
	s, e := Encode(named("hex", "runs"), "aaaa")
	is(s, e, "FD6180>", 0)
	s, e = Decode(named("hex", "runs"), s)
	is(s, e, "aaaa", 0)
	s, e = Encode(nil, "a")
	is(s, e, "a", 0)
	s, e = Decode(nil, "a")
	is(s, e, "a", 0)
	s, e = Decode(named("hex"), "61>zz")
	is(s, e, "a", 0)
	s, e = Decode(named("hex", "hex"), "61>")
	is(s, e, "", api.ErrForm)
	s, e = Decode(named("zip", "hex", "hex", "hex", "hex"), "")
	is(s, e, "", api.ErrLong)
	s, e = Encode(named("hex", "hex", "hex", "hex", "hex"), "")
	is(s, e, "", api.ErrLong)
	s, e = Decode(named("hex", "zip"), strings.Repeat(" ", 65537))
	is(s, e, "", api.ErrFilter)
	s, e = Decode(nil, strings.Repeat(" ", 65537))
	is(s, e, "", api.ErrLong)
	s, e = Encode([]api.Filter{{Name: "hex"}, {Name: "fax", W: 7}}, "\x01")
	is(s, e, "", api.ErrRow)
	s, e = Encode([]api.Filter{{Name: "cosine", W: 7, H: 1, Q: 1}}, "\x01")
	is(s, e, "", api.ErrSamples)
	s, e = Encode(named("hex", "hex"), strings.Repeat("a", 20000))
	is(s, e, "", api.ErrLong)
}

// P9.3
func TestInverse(t *testing.T) {
	r := rand.New(rand.NewSource(1))
	for range 300 {
		b := make([]byte, 16*r.Intn(9))
		for i := range b {
			b[i] = byte(r.Intn(3))
		}
		var l []api.Filter
		for range r.Intn(5) {
			l = append(l, append(named("hex", "base85", "runs", "lzw"), api.Filter{Name: "fax", W: 16}, api.Filter{Name: "cosine", W: len(b) / 4, H: 4, Q: 1})[r.Intn(6)])
		}
		c, e := Encode(l, string(b))
		if e != api.OK {
			continue
		}
		if len(l) > 0 {
			c += "x"
		}
		if s, e := Decode(l, c); s != string(b) || e != api.OK {
			t.Errorf("%v: %x %d", l, s, e)
		}
		k := r.Intn(len(l) + 1)
		s, _ := Decode(l[:k], c)
		if s, e := Decode(l[k:], s); s != string(b) || e != api.OK {
			t.Errorf("%v: %x %d", l, s, e)
		}
	}
}
