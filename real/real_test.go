package real

import (
	"math/big"
	"math/rand"
	"strings"
	"testing"

	"chase/api"
)

func check(t *testing.T, what string, got int, e api.Errno, want int, code api.Errno) {
	t.Helper()
	if got != want || e != code {
		t.Errorf("%s: %d, error %d; want %d, error %d", what, got, e, want, code)
	}
}

// P1.1
func TestConversions(t *testing.T) {
	for n, want := range map[int]bool{0: true, 1 << 31: true, -1 << 31: true, 1<<31 + 1: false, -1<<31 - 1: false, -1 << 63: false} {
		if Is(n) != want {
			t.Errorf("Is(%d)", n)
		}
	}
	n, e := FromInt(-32768)
	check(t, "FromInt", n, e, -1<<31, api.OK)
	n, e = FromInt(-32769)
	check(t, "FromInt", n, e, 0, api.UndefinedResult)
	n, e = FromInt(1 << 60)
	check(t, "FromInt", n, e, 0, api.UndefinedResult)
	n, e = ToInt(-98304)
	check(t, "ToInt", n, e, -1, api.OK)
	n, e = ToInt(1<<31 + 1)
	check(t, "ToInt", n, e, 0, api.ErrArg)
}

// round is floor(x + 1/2), exactly.
func round(x *big.Rat) int {
	y := new(big.Rat).Add(x, big.NewRat(1, 2))
	q, r := new(big.Int).QuoRem(y.Num(), y.Denom(), new(big.Int))
	if r.Sign() < 0 {
		q.Sub(q, big.NewInt(1))
	}
	if !q.IsInt64() {
		return 1 << 62
	}
	return int(q.Int64())
}

func samples(r *rand.Rand) []int {
	l := []int{0, 1, -1, 32767, 32768, 32769, -32768, 65536, -65536, 1 << 31, -1 << 31, 1<<31 - 1, 92681, 98304, -98304}
	for range 60 {
		l = append(l, r.Intn(1<<uint(1+r.Intn(31)))-r.Intn(1<<uint(1+r.Intn(31))))
	}
	return l
}

// P1.2, and the consequences of P1.6 on it
func TestArithmetic(t *testing.T) {
	expect := func(what string, n int, e api.Errno, exact *big.Rat) {
		t.Helper()
		want, code := round(exact), api.OK
		if !Is(want) {
			want, code = 0, api.UndefinedResult
		}
		check(t, what, n, e, want, code)
	}
	l := samples(rand.New(rand.NewSource(1)))
	for _, a := range l {
		for _, b := range l {
			n, e := Add(a, b)
			expect("Add", n, e, big.NewRat(int64(a+b), 1))
			if e == api.OK {
				if back, e := Sub(n, b); back != a || e != api.OK {
					t.Errorf("%d + %d - %d is %d", a, b, b, back)
				}
			}
			n, e = Sub(a, b)
			expect("Sub", n, e, big.NewRat(int64(a-b), 1))
			n, e = Mul(a, b)
			expect("Mul", n, e, new(big.Rat).Mul(big.NewRat(int64(a), 65536), big.NewRat(int64(b), 1)))
			n, e = Div(a, b)
			if b == 0 {
				check(t, "Div by 0", n, e, 0, api.UndefinedResult)
			} else {
				expect("Div", n, e, big.NewRat(int64(a)*65536, int64(b)))
			}
		}
		n, e := Neg(a)
		check(t, "Neg", n, e, -a, api.OK)
		n, e = Mul(a, api.One)
		check(t, "Mul by One", n, e, a, api.OK)
		n, e = Div(a, api.One)
		check(t, "Div by One", n, e, a, api.OK)
	}
}

func TestInvalidReals(t *testing.T) {
	for _, bad := range []int{1<<31 + 1, -1<<31 - 1, -1 << 63, 1<<63 - 1} {
		for i, f := range []func(int, int) (int, api.Errno){Add, Sub, Mul, Div} {
			n, e := f(bad, 0)
			check(t, "first", n, e, 0, api.ErrArg)
			n, e = f(0, bad)
			check(t, "second", n, e, 0, api.ErrArg)
			_ = i
		}
		for _, f := range []func(int) (int, api.Errno){ToInt, Neg, Floor, Ceil, Round, Trunc, Sqrt} {
			n, e := f(bad)
			check(t, "one", n, e, 0, api.ErrArg)
		}
		if s, e := Print(bad); s != "" || e != api.ErrArg {
			t.Errorf("Print(%d): %q, %d", bad, s, e)
		}
	}
}

// P1.3
func TestRoundings(t *testing.T) {
	for _, c := range [][5]int{
		{163840, 131072, 196608, 196608, 131072},
		{-163840, -196608, -131072, -131072, -131072},
		{1, 0, 65536, 0, 0},
		{-1, -65536, 0, 0, 0},
		{1 << 31, 1 << 31, 1 << 31, 1 << 31, 1 << 31},
		{1<<31 - 1, 1<<31 - 65536, 1 << 31, 1 << 31, 1<<31 - 65536},
		{-1 << 31, -1 << 31, -1 << 31, -1 << 31, -1 << 31},
		{32767, 0, 65536, 0, 0},
	} {
		for i, f := range []func(int) (int, api.Errno){Floor, Ceil, Round, Trunc} {
			n, e := f(c[0])
			check(t, "rounding", n, e, c[i+1], api.OK)
		}
	}
	for _, a := range samples(rand.New(rand.NewSource(2))) {
		f, _ := Floor(a)
		c, _ := Ceil(a)
		r, _ := Round(a)
		if f > r || f > a || c < a || c < r {
			t.Errorf("%d: %d %d %d", a, f, r, c)
		}
	}
}

// P1.4
func TestSqrt(t *testing.T) {
	n, e := Sqrt(-1)
	check(t, "Sqrt", n, e, 0, api.RangeCheck)
	n, e = Sqrt(131072)
	check(t, "Sqrt", n, e, 92681, api.OK)
	for _, a := range samples(rand.New(rand.NewSource(3))) {
		if a < 0 {
			continue
		}
		n, e := Sqrt(a)
		if e != api.OK || n*n > a*65536 || (n+1)*(n+1) <= a*65536 {
			t.Errorf("Sqrt(%d) is %d, error %d", a, n, e)
		}
	}
}

// P1.5, P1.6
func TestText(t *testing.T) {
	for a, want := range map[int]string{0: "0.0", -32768: "-0.5", 1: "0.0000152587890625", -1 << 31: "-32768.0", 98304: "1.5"} {
		if s, e := Print(a); s != want || e != api.OK {
			t.Errorf("Print(%d): %q, %d", a, s, e)
		}
	}
	for _, a := range samples(rand.New(rand.NewSource(4))) {
		s, _ := Print(a)
		n, e := Parse(s)
		check(t, s, n, e, a, api.OK)
	}
	for _, s := range []string{"", "+", "-", ".", "1.2.", "1e", "1e+", "1e1234", "e5", "1 ", " 1", "0x1", "1e1.", "--1", "1\x00"} {
		n, e := Parse(s)
		check(t, s, n, e, 0, api.ErrForm)
	}
	n, e := Parse(strings.Repeat("0", 41))
	check(t, "long", n, e, 0, api.ErrLong)
	n, e = Parse(strings.Repeat("0", 40))
	check(t, "not too long", n, e, 0, api.OK)
	for _, s := range []string{"32768.1", "1e999", "-32768.00001", "99999999999999999999999999999999999999"} {
		n, e := Parse(s)
		check(t, s, n, e, 0, api.ErrBig)
	}
}

func TestParseIsExact(t *testing.T) {
	l := []string{"1e-1", "-.5", "5.", "+7", "32768", "32768.000007", "-32768.000007", "0.00000762939453125", "-0.00000762939453125", "0.000007629394531249999999", "1e-999", "-1e-999", "0e999", "00000000000000000000000000000000001e-34", "1E+3", "0.00000000000000000000000000000001e36"}
	r := rand.New(rand.NewSource(5))
	for range 2000 {
		s := ""
		for range 1 + r.Intn(12) {
			s += string(rune('0' + r.Intn(10)))
		}
		s += "."
		for range r.Intn(20) {
			s += string(rune('0' + r.Intn(10)))
		}
		if r.Intn(2) == 0 {
			s += []string{"e-5", "E3", "e-12", "e+1", "e-3"}[r.Intn(5)]
		}
		if r.Intn(2) == 0 {
			s = "-" + s
		}
		l = append(l, s)
	}
	for _, s := range l {
		x, ok := new(big.Rat).SetString(strings.TrimSuffix(s, "."))
		if !ok {
			t.Fatal(s)
		}
		want, code := round(x.Mul(x, big.NewRat(65536, 1))), api.OK
		if !Is(want) {
			want, code = 0, api.ErrBig
		}
		n, e := Parse(s)
		check(t, s, n, e, want, code)
	}
}
