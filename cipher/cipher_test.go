package cipher

import (
	"math/rand"
	"strings"
	"testing"

	"chase/api"
)

func is(t *testing.T, what, got string, e api.Errno, want string, code api.Errno) {
	t.Helper()
	if got != want || e != code {
		t.Errorf("%.30s: %.30q %d, want %.30q %d", what, got, e, want, code)
	}
}

// P32.1, P32.2
func TestExamples(t *testing.T) {
	s, e := Encrypt("", api.KeyFont)
	is(t, "Encrypt", s, e, string([]byte{217, 214, 111, 99}), 0)
	s, e = Encrypt("a", api.KeyGlyph)
	is(t, "Encrypt", s, e, string([]byte{16, 191, 49, 112, 147}), 0)
	s, e = Decrypt(string([]byte{217, 214, 111, 99}), api.KeyFont)
	is(t, "Decrypt", s, e, "", 0)
	s, e = Decrypt(string([]byte{16, 191, 49, 112, 147}), api.KeyGlyph)
	is(t, "Decrypt", s, e, "a", 0)
	s, e = Decrypt(string([]byte{217, 214, 111}), api.KeyFont)
	is(t, "Decrypt", s, e, "", api.ErrForm)
	for _, key := range []int{65536, -1, 1 << 40} {
		s, e = Encrypt("a", key)
		is(t, "Encrypt", s, e, "", api.ErrArg)
		s, e = Decrypt("a", key)
		is(t, "Decrypt", s, e, "", api.ErrArg)
		s, e = Encrypt(strings.Repeat("a", 65537), key)
		is(t, "Encrypt", s, e, "", api.ErrLong)
		s, e = Decrypt(strings.Repeat("a", 65537), key)
		is(t, "Decrypt", s, e, "", api.ErrLong)
	}
	s, e = Encrypt(strings.Repeat("a", 65533), 0)
	is(t, "Encrypt", s, e, "", api.ErrLong)
	s, e = Encrypt(strings.Repeat("a", 65532), 65535)
	if len(s) != 65536 || e != api.OK {
		t.Error(len(s), e)
	}
	s, e = Decrypt(s, 65535)
	is(t, "Decrypt", s, e, strings.Repeat("a", 65532), 0)
}

// P32.3
func TestConsequences(t *testing.T) {
	r := rand.New(rand.NewSource(1))
	for range 500 {
		b := make([]byte, r.Intn(50))
		r.Read(b)
		key := r.Intn(65536)
		c, _ := Encrypt(string(b), key)
		s, e := Decrypt(c, key)
		is(t, "inverse", s, e, string(b), 0)
		n := r.Intn(len(b) + 1)
		if part, _ := Encrypt(string(b[:n]), key); !strings.HasPrefix(c, part) {
			t.Error("the beginning of a string")
		}
		changed := []byte(c)
		at := r.Intn(len(c))
		changed[at] ^= 1 + byte(r.Intn(255))
		s, _ = Decrypt(string(changed), key)
		if k := max(0, at-api.Lead); s[:k] != string(b[:k]) {
			t.Error("octets before a change")
		}
		if k := at - api.Lead; k >= 0 && s[k] == b[k] {
			t.Error("the changed octet")
		}
	}
}
