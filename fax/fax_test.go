package fax

import (
	"math/rand"
	"strings"
	"testing"

	"chase/api"
)

// bitsOf turns bits, written with blanks, into octets.
func bitsOf(s string) string {
	w := &writer{}
	for _, c := range strings.ReplaceAll(s, " ", "") {
		w.write(byte(c - '0'))
	}
	return string(w.out)
}

const end = " 00000001"

func encodes(t *testing.T, s string, w int, want string, code api.Errno) {
	t.Helper()
	if got, e := Encode(s, w); got != want || e != code {
		t.Errorf("Encode(%x, %d): %x %d, want %x %d", s, w, got, e, want, code)
	}
}

func decodes(t *testing.T, s string, w int, want string, at int, code api.Errno) {
	t.Helper()
	if got, n, e := Decode(s, w); got != want || n != at || e != code {
		t.Errorf("Decode(%x, %d): %x %d %d, want %x %d %d", s, w, got, n, e, want, at, code)
	}
}

// P7.1
func TestEncode(t *testing.T) {
	encodes(t, "", 8, "\x01", 0)
	encodes(t, "\x00", 8, "\x80\x80", 0)
	encodes(t, "\x60", 8, bitsOf("001 010 011 1"+end), 0)
	encodes(t, "\x60\x70", 8, bitsOf("001 010 011 1 1 011 1"+end), 0)
	encodes(t, "\x30\x00", 8, bitsOf("001 011 011 1 0001 1"+end), 0)
	encodes(t, "\x80\x00", 1, bitsOf("010 1 011"+end), 0)
	encodes(t, "\x01", 7, "", api.ErrRow)
	encodes(t, "\x01", 9, "", api.ErrRow)
	encodes(t, "", 129, "", api.ErrArg)
	encodes(t, "", 0, "", api.ErrArg)
	encodes(t, strings.Repeat("a", 65537), 0, "", api.ErrLong)
	encodes(t, strings.Repeat("\x55\xaa", 32768), 8, "", api.ErrLong)
}

func mustEncode(s string, w int) string { x, _ := Encode(s, w); return x }

// P7.2
func TestDecode(t *testing.T) {
	decodes(t, "\x80\x80\x09", 8, "\x00", 2, 0)
	decodes(t, "\x01", 8, "", 1, 0)
	// Modes that Encode would not choose.
	decodes(t, bitsOf("001 1 0001000 1"+end), 8, "\xfe", 3, api.OK)
	decodes(t, bitsOf("001 010 1 001 010 1 1"+end), 8, "\x00", 3, 0)
	for _, s := range []string{
		"\x80\x81", "", "\x00", bitsOf("1"), bitsOf("0001 1" + end), bitsOf("011" + end), bitsOf("001 1 1 001 1 1 1" + end), bitsOf("001 0001010 1" + end), bitsOf("001 0001000 011" + end), bitsOf("0000001 0 00000001"),
		bitsOf("001 010 1 00000001"), bitsOf("00000000 1"), bitsOf("001 0000000000000"),
	} {
		decodes(t, s, 8, "", 0, api.ErrForm)
	}
	decodes(t, "\x80", 129, "", 0, api.ErrArg)
	decodes(t, strings.Repeat("\xff", 65537), 129, "", 0, api.ErrLong)
	decodes(t, strings.Repeat("\xff", 8193)+"\x01", 8, "", 0, api.ErrLong)
	decodes(t, strings.Repeat("\xff", 8192)+"\x01", 8, strings.Repeat("\x00", 65536), 8193, 0)
	// A vertical mode must move to the right of -1 and of a.
	decodes(t, bitsOf("001 1 00111 1"+end), 8, "\xfc", 3, 0)
	decodes(t, bitsOf("001 1 00111 1 010"+end), 8, "", 0, api.ErrForm)
}

func TestModes(t *testing.T) {
	before := byte(0x18)
	first := "001 00100 011 1 "
	for row, want := range map[byte]string{0x18: "1 1 1", 0x0c: "011 011 1", 0x30: "010 010 1", 0x07: "000011 1", 0xc0: "0000010 0000010 0001 1"} {
		encodes(t, string([]byte{before, row}), 8, bitsOf(first+want+end), 0)
	}
}

// P7.3
func TestInverse(t *testing.T) {
	r := rand.New(rand.NewSource(1))
	for range 1500 {
		w := 1 + r.Intn(128)
		n := size(w)
		rows := make([]byte, n*r.Intn(6))
		dense := r.Intn(3)
		for i := range rows {
			x := byte(r.Intn(256))
			if dense < 2 {
				x &= byte(r.Intn(256) * r.Intn(2))
			}
			if dense == 0 && i >= n && r.Intn(3) > 0 {
				x = rows[i-n]
			}
			if i%n == n-1 {
				x &= byte(0xff << (8*n - w))
			}
			rows[i] = x
		}
		c, e := Encode(string(rows), w)
		if e != api.OK {
			t.Fatal(e)
		}
		decodes(t, c+"\x80", w, string(rows), len(c), 0)
		decodes(t, c[:r.Intn(len(c))], w, "", 0, api.ErrForm)
	}
	x := mustEncode("\x55", 8)
	y := mustEncode("\x55\x55", 8)
	if len(y) != len(x)+1 {
		t.Error("an equal row takes one bit for each change, and one")
	}
}

func TestGarbage(t *testing.T) {
	r := rand.New(rand.NewSource(2))
	for range 20000 {
		b := make([]byte, r.Intn(6))
		r.Read(b)
		w := 1 + r.Intn(20)
		s, n, e := Decode(string(b), w)
		if e == api.OK {
			if _, e := Encode(s, w); e != api.OK || n > len(b) {
				t.Errorf("%x: %x", b, s)
			}
		}
	}
}
