package tone

import (
	"math/rand"
	"strings"
	"testing"

	"chase/api"
)

func tile(w, h int, t ...byte) api.Tile { return api.Tile{W: w, H: h, T: string(t)} }

var q = tile(2, 2, 0, 128, 192, 64)

// P27.1
func TestTiles(t *testing.T) {
	for _, x := range []api.Tile{q, tile(1, 1, 254), {W: 16, H: 16, T: strings.Repeat("x", 256)}} {
		if e := Check(x); e != api.OK {
			t.Error(x, e)
		}
	}
	for _, x := range []api.Tile{{}, tile(1, 1, 255), tile(2, 2, 0, 0, 0), tile(1, 1, 0, 0), {W: 17, H: 1, T: strings.Repeat("x", 17)}, {W: 1, H: 17, T: strings.Repeat("x", 17)}, {W: -1, H: -1, T: "x"}, {W: 1 << 33, H: 1 << 33}} {
		b, e := Bit(x, 999, 0, 0)
		n, e2 := Count(x, 999)
		m, e3 := Bits(x, api.Ink{999}, 0, 0)
		if Check(x) != api.ErrTile || b || n != 0 || m != 0 || e != api.ErrTile || e2 != api.ErrTile || e3 != api.ErrTile {
			t.Error(x)
		}
	}
	for _, c := range []struct {
		kind, w, h int
		want       []byte
	}{{api.SpotLine, 1, 4, []byte{127, 0, 63, 191}}, {api.SpotDot, 2, 2, []byte{0, 63, 127, 191}}, {api.SpotDiamond, 3, 3, []byte{141, 28, 170, 56, 0, 85, 198, 113, 226}}, {api.SpotLine, 2, 2, []byte{0, 63, 127, 191}}, {api.SpotDot, 4, 1, []byte{127, 0, 63, 191}}} {
		if x, e := Spot(c.kind, c.w, c.h); x != tile(c.w, c.h, c.want...) || e != api.OK {
			t.Error(c, x, e)
		}
	}
	for _, c := range [][3]int{{3, 1, 1}, {-1, 1, 1}, {0, 17, 1}, {0, 1, 17}, {0, 0, 1}, {0, 1, 0}, {0, 1 << 40, 1 << 40}} {
		if x, e := Spot(c[0], c[1], c[2]); x != (api.Tile{}) || e != api.ErrArg {
			t.Error(c, e)
		}
	}
}

// P27.2
func TestBit(t *testing.T) {
	for _, c := range []struct {
		x, y int
		want bool
	}{{0, 0, true}, {1, 0, false}, {0, 1, false}, {1, 1, true}, {-1, -1, true}, {2, 4, true}, {-1 << 63, 1<<63 - 1, false}} {
		if b, e := Bit(q, 100, c.x, c.y); b != c.want || e != api.OK {
			t.Error(c, b, e)
		}
	}
	for n, want := range map[int]int{0: 0, 1: 1, 65: 2, 129: 3, 255: 4, 64: 1} {
		if k, e := Count(q, n); k != want || e != api.OK {
			t.Error(n, k, e)
		}
	}
	for _, n := range []int{256, -1} {
		b, e := Bit(q, n, 0, 0)
		k, e2 := Count(q, n)
		if b || k != 0 || e != api.ErrArg || e2 != api.ErrArg {
			t.Error(n, e, e2)
		}
	}
}

// P27.3
func TestBits(t *testing.T) {
	i := api.Ink{255, 0, 70, 200}
	for _, c := range [][3]int{{1, 1, 13}, {0, 1, 9}, {0, 0, 13}, {-1, -1, 13}, {1, 0, 9}} {
		if n, e := Bits(q, i, c[0], c[1]); n != c[2] || e != api.OK {
			t.Error(c, n, e)
		}
	}
	if n, e := Bits(q, api.Ink{256}, 0, 0); n != 0 || e != api.ErrInk {
		t.Error(n, e)
	}
}

// P27.4
func TestConsequences(t *testing.T) {
	r := rand.New(rand.NewSource(1))
	for range 300 {
		w, h := 1+r.Intn(16), 1+r.Intn(16)
		x, e := Spot(r.Intn(api.Spots), w, h)
		if e != api.OK || Check(x) != api.OK {
			t.Fatal(e)
		}
		n, i, j := r.Intn(256), r.Intn(99)-50, r.Intn(99)-50
		if k, _ := Count(x, n); k != (n*w*h+254)/255 {
			t.Error(w, h, n, k)
		}
		b, _ := Bit(x, n, i, j)
		more, _ := Bit(x, min(255, n+1), i, j)
		again, _ := Bit(x, n, i+3*w, j-5*h)
		none, _ := Bit(x, 0, i, j)
		all, _ := Bit(x, 255, i, j)
		if b && !more || again != b || none || !all {
			t.Error(x, n, i, j)
		}
	}
}
