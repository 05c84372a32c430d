package cosine

import (
	"math/big"
	"math/rand"
	"strings"
	"testing"

	"chase/api"
)

func norm(i int) int { return common / shares[i] }

func TestMatrix(t *testing.T) {
	for i := range 8 {
		for j := range 8 {
			n := sum(func(k int) int { return matrix[i][k] * matrix[j][k] })
			want := 0
			if i == j {
				want = norm(i)
			}
			if n != want || i == j && common%want != 0 {
				t.Error(i, j, n)
			}
		}
	}
}

// P8.1
func TestTransform(t *testing.T) {
	var ones, one, x [64]int
	for i := range ones {
		ones[i] = 1
	}
	one[0] = 1
	if y, e := Forward(ones); y != [64]int{64} || e != api.OK {
		t.Error(y, e)
	}
	if y, e := Forward(one); y[0] != 1 || y[1] != 10 || y[8] != 10 || y[9] != 100 || e != api.OK {
		t.Error(y, e)
	}
	if b, e := Inverse([64]int{64}); b != ones || e != api.OK {
		t.Error(b, e)
	}
	if b, e := Inverse([64]int{31}); b != [64]int{} || e != api.OK {
		t.Error(b, e)
	}
	for _, v := range []int{1<<20 + 1, -1<<20 - 1, -1 << 63} {
		x[63] = v
		if y, e := Forward(x); y != [64]int{} || e != api.ErrArg {
			t.Error(e)
		}
	}
	for _, v := range []int{1<<32 + 1, -1<<32 - 1, -1 << 63} {
		x[63] = v
		if y, e := Inverse(x); y != [64]int{} || e != api.ErrArg {
			t.Error(e)
		}
	}
}

func TestInverseIsExact(t *testing.T) {
	r := rand.New(rand.NewSource(1))
	for n := range 60 {
		var y [64]int
		for i := range y {
			y[i] = r.Intn(1<<uint(2+n/2)) - r.Intn(1<<uint(2+n/2))
			if n == 59 {
				y[i] = (1 << 32) * (1 - 2*r.Intn(2))
			}
		}
		b, e := Inverse(y)
		if e != api.OK {
			t.Fatal(e)
		}
		for _, at := range []int{0, 9, 63, r.Intn(64)} {
			x := big.NewRat(1, 2)
			for k, v := range y {
				i, j := k/8, k%8
				x.Add(x, new(big.Rat).Mul(big.NewRat(int64(v), 1), big.NewRat(int64(matrix[i][at/8]*matrix[j][at%8]), int64(norm(i)*norm(j)))))
			}
			q := new(big.Int).Div(x.Num(), x.Denom())
			if q.Int64() != int64(b[at]) {
				t.Errorf("element %d is %d, want %d", at, b[at], q)
			}
		}
	}
}

// P8.2
func TestZigzagAndBound(t *testing.T) {
	want := "00011020110203122130" + "40312213040514233241" + "50605142332415"
	got := ""
	for k := range 27 {
		i, j, e := Zigzag(k)
		if e != api.OK {
			t.Fatal(e)
		}
		got += string(rune('0'+i)) + string(rune('0'+j))
	}
	if got != want {
		t.Error(got)
	}
	seen := map[[2]int]bool{}
	for k := range 64 {
		i, j, _ := Zigzag(k)
		seen[[2]int{i, j}] = true
	}
	i, j, _ := Zigzag(63)
	if len(seen) != 64 || i != 7 || j != 7 {
		t.Error("not all elements")
	}
	for _, k := range []int{-1, 64} {
		if _, _, e := Zigzag(k); e != api.ErrArg {
			t.Error(k)
		}
	}
	for q, want := range map[int]int{1: 0, 10: 1, 255: 22} {
		if n, e := Bound(q); n != want || e != api.OK {
			t.Error(q, n, e)
		}
	}
	for _, q := range []int{0, 256} {
		if n, e := Bound(q); n != 0 || e != api.ErrArg {
			t.Error(q)
		}
	}
}

// P8.3
func TestEncode(t *testing.T) {
	x := strings.Repeat
	for _, c := range []struct {
		s       string
		w, h, q int
		want    string
		e       api.Errno
	}{
		{"\x81", 1, 1, 1, "\x00\x80\x01\x40", 0}, {"\x80", 1, 1, 1, "\x40", 0}, {"\x7f", 1, 1, 1, "\x00\x7f\x40", 0}, {"\x81", 1, 1, 128, "\x00\x02\x40", 0}, {"\x81", 1, 1, 129, "\x40", 0}, {"\x7f", 1, 1, 128, "\x40", 0},
		{x("\x80", 128), 16, 8, 1, "\x40\x40", 0}, {"\x80\x81", 2, 1, 200, "", 0},
		{"a", 2, 1, 1, "", api.ErrSamples}, {"a", 0, 1, 1, "", api.ErrArg}, {"a", 1, 129, 1, "", api.ErrArg}, {"a", 1, 1, 0, "", api.ErrArg}, {"a", 1, 1, 256, "", api.ErrArg}, {x("a", 65537), 0, 0, 0, "", api.ErrLong},
	} {
		got, e := Encode(c.s, c.w, c.h, c.q)
		if c.q == 200 {
			c.want = got
		}
		if got != c.want || e != c.e {
			t.Errorf("Encode(%.9q, %d, %d, %d): %x %d", c.s, c.w, c.h, c.q, got, e)
		}
	}
}

// P8.4
func TestDecode(t *testing.T) {
	type c struct {
		s       string
		w, h, q int
	}
	for in, want := range map[c]string{{"\x40", 1, 1, 1}: "\x80", {"\x00\x80\x01\x40z", 1, 1, 1}: "\x81", {"\x00\x80\x81\x00\x40", 1, 1, 1}: "\x81", {"\x00\xff\x7f\x40", 1, 1, 255}: "\x00", {"\x00\xfe\x7f\x40", 2, 1, 255}: "\xff\xff", {"\x3f\x02\x40", 1, 1, 1}: "\x80"} {
		s, at, e := Decode(in.s, in.w, in.h, in.q)
		if s != want || at != len(strings.TrimSuffix(in.s, "z")) || e != api.OK {
			t.Errorf("%v: %x %d %d", in, s, at, e)
		}
	}
	for _, s := range []string{"\x00\x00\x40", "\x00\x80\x01", "\x00\x02", "", "\x41\x02\x40", "\x3f\x02\x00\x02\x40", "\x00\x80\x80\x80\x00\x40", "\x00\x80\x80\x80\x01\x40", "\x00\x80\x00\x40", "\x3e\x02\x01\x02\x40", "\x00\x81\x81"} {
		if got, at, e := Decode(s, 1, 1, 1); got != "" || at != 0 || e != api.ErrForm {
			t.Errorf("%x: %x %d %d", s, got, at, e)
		}
	}
	if _, _, e := Decode("\x40", 1, 1, 256); e != api.ErrArg {
		t.Error(e)
	}
	if _, _, e := Decode(strings.Repeat("\x40", 65537), 1, 1, 256); e != api.ErrLong {
		t.Error(e)
	}
	if _, _, e := Decode("\x40", 9, 1, 1); e != api.ErrForm {
		t.Error(e)
	}
}

// P8.5
func TestInversePictures(t *testing.T) {
	r := rand.New(rand.NewSource(2))
	for range 300 {
		w, h, q := 1+r.Intn(20), 1+r.Intn(20), 1+r.Intn(255)
		if r.Intn(3) == 0 {
			q = 1
		}
		b := make([]byte, w*h)
		for i := range b {
			b[i] = byte(r.Intn(2)) * 255
			if q%2 == 0 {
				b[i] = byte(r.Intn(256))
			}
		}
		c, e := Encode(string(b), w, h, q)
		if e != api.OK {
			t.Fatal(e)
		}
		got, at, e := Decode(c+"@", w, h, q)
		if at != len(c) || e != api.OK {
			t.Fatal(at, e)
		}
		bound, _ := Bound(q)
		for i := range got {
			if d := int(got[i]) - int(b[i]); d > bound || d < -bound {
				t.Fatalf("step %d: %d instead of %d", q, got[i], b[i])
			}
		}
		if _, _, e := Decode(c[:r.Intn(len(c))], w, h, q); e != api.ErrForm {
			t.Error(e)
		}
		var x [64]int
		for i := range x {
			x[i] = r.Intn(1<<21) - 1<<20
		}
		y, _ := Forward(x)
		if back, e := Inverse(y); e == api.OK && back != x {
			t.Error("Inverse does not invert Forward")
		}
	}
}
