package color

import (
	"math/rand"
	"strings"
	"testing"

	"chase/api"
)

func is(t *testing.T, what string, got any, e api.Errno, want any, code api.Errno) {
	t.Helper()
	if got != want || e != code {
		t.Errorf("%s: %v %d, want %v %d", what, got, e, want, code)
	}
}

type ink = api.Ink

var bad = []ink{{256}, {0, -1}, {0, 0, 1 << 62}, {0, 0, 0, -1 << 63}}

// P26.1
func TestConversions(t *testing.T) {
	for n, want := range map[int]int{0: 0, 32768: 128, 65536: 255, 65537: 255, -1: 0, 1 << 31: 255, -1 << 31: 0, 128: 0, 129: 1, 65535: 255, 65407: 254} {
		b, e := Byte(n)
		is(t, "Byte", b, e, want, 0)
	}
	i, e := Gray(65536)
	is(t, "Gray", i, e, ink{}, 0)
	i, e = Gray(0)
	is(t, "Gray", i, e, ink{0, 0, 0, 255}, 0)
	i, e = Gray(32768)
	is(t, "Gray", i, e, ink{0, 0, 0, 127}, 0)
	i, e = Rgb(65536, 0, 0)
	is(t, "Rgb", i, e, ink{0, 255, 255, 0}, 0)
	i, e = Rgb(0, 0, 32768)
	is(t, "Rgb", i, e, ink{128, 128, 0, 127}, 0)
	i, e = Cmyk(0, 32768, 99999, -5)
	is(t, "Cmyk", i, e, ink{0, 128, 255, 0}, 0)
	for _, n := range []int{1<<31 + 1, -1<<31 - 1, 1<<63 - 1} {
		b, e := Byte(n)
		is(t, "Byte", b, e, 0, api.ErrArg)
		i, e = Gray(n)
		is(t, "Gray", i, e, ink{}, api.ErrArg)
		i, e = Rgb(0, 0, n)
		is(t, "Rgb", i, e, ink{}, api.ErrArg)
		i, e = Cmyk(0, n, 0, 0)
		is(t, "Cmyk", i, e, ink{}, api.ErrArg)
	}
	for _, i := range bad {
		is(t, "Check", i, Check(i), i, api.ErrInk)
	}
	is(t, "Check", 0, Check(ink{0, 255, 1, 254}), 0, 0)
}

// P26.2
func TestSamples(t *testing.T) {
	for s, want := range map[string]ink{"\x0a\x14\x1e": {20, 10, 0, 225}, "\x0a": {0, 0, 0, 245}, "\x01\x02\x03\xff": {1, 2, 3, 255}} {
		i, e := Sample(s)
		is(t, "Sample", i, e, want, 0)
		i, e = Indexed("abcd"[:len(s)]+s, len(s), 1)
		is(t, "Indexed", i, e, want, 0)
	}
	for _, s := range []string{"", "ab", "abcde"} {
		i, e := Sample(s)
		is(t, "Sample", i, e, ink{}, api.ErrArg)
	}
	for _, c := range []struct {
		table string
		n, i  int
		e     api.Errno
	}{{"abcdef", 3, 2, api.ErrNone}, {"abcdef", 3, -1, api.ErrNone}, {"abc", 1, 1 << 62, api.ErrNone}, {"abcdef", 2, 0, api.ErrArg}, {"abcde", 3, 9, api.ErrArg}, {"", 3, 0, api.ErrArg}, {"ab", 0, 0, api.ErrArg}, {"ab", -1, 0, api.ErrArg}} {
		i, e := Indexed(c.table, c.n, c.i)
		is(t, "Indexed", i, e, ink{}, c.e)
	}
}

// P26.3, P26.4, P26.5
func TestInks(t *testing.T) {
	r, g, b, e := Back(ink{20, 10, 0, 225})
	is(t, "Back", [3]int{r, g, b}, e, [3]int{10, 20, 30}, 0)
	r, g, b, e = Back(ink{255, 0, 0, 255})
	is(t, "Back", [3]int{r, g, b}, e, [3]int{}, 0)
	x := ink{255, 0, 100, 3}
	i, e := Mix(ink{}, x, 1, 2)
	is(t, "Mix", i, e, ink{128, 0, 50, 2}, 0)
	i, e = Mix(ink{}, x, 1, 3)
	is(t, "Mix", i, e, ink{85, 0, 33, 1}, 0)
	i, e = Mix(x, ink{}, 1<<31, 1<<31)
	is(t, "Mix", i, e, ink{}, 0)
	for _, c := range [][2]int{{3, 2}, {-1, 2}, {0, 0}, {0, -1}, {0, 1<<31 + 1}} {
		i, e = Mix(x, x, c[0], c[1])
		is(t, "Mix", i, e, ink{}, api.ErrArg)
	}
	table := []byte(strings.Repeat("x", 256))
	table[255], table[0], table[100], table[3] = 1, 2, 3, 4
	i, e = Transfer(string(table), x)
	is(t, "Transfer", i, e, ink{1, 2, 3, 4}, 0)
	for _, wrong := range bad {
		i, e = Mix(wrong, x, 3, 2)
		is(t, "Mix", i, e, ink{}, api.ErrInk)
		i, e = Mix(x, wrong, 3, 2)
		is(t, "Mix", i, e, ink{}, api.ErrInk)
		i, e = Transfer(string(table), wrong)
		is(t, "Transfer", i, e, ink{}, api.ErrInk)
		i, e = Transfer(string(table[1:]), wrong)
		is(t, "Transfer", i, e, ink{}, api.ErrArg)
		r, g, b, e := Back(wrong)
		is(t, "Back", [3]int{r, g, b}, e, [3]int{}, api.ErrInk)
	}
}

// P26.6
func TestConsequences(t *testing.T) {
	rnd := rand.New(rand.NewSource(1))
	for range 2000 {
		n := [3]int{rnd.Intn(65537), rnd.Intn(65537), rnd.Intn(65537)}
		i, _ := Rgb(n[0], n[1], n[2])
		r, g, b, _ := Back(i)
		for k, x := range []int{r, g, b} {
			if want, _ := Byte(n[k]); x != want {
				t.Error(n)
			}
		}
		j, _ := Gray(n[0])
		r, g, b, _ = Back(j)
		if want, _ := Byte(n[0]); r != want || g != want || b != want {
			t.Error(n)
		}
		darker, _ := Gray(n[0] / 2)
		if darker[3] < j[3] || Check(i) != api.OK {
			t.Error(n)
		}
		d := 1 + rnd.Intn(1<<rnd.Intn(31))
		k := rnd.Intn(d)
		m, _ := Mix(i, j, k, d)
		next, _ := Mix(i, j, k+1, d)
		first, _ := Mix(i, j, 0, d)
		last, _ := Mix(i, j, d, d)
		self, _ := Mix(i, i, k, d)
		if first != i || last != j || self != i {
			t.Error(i, j, k, d)
		}
		for c := range m {
			away, closer := m[c]-j[c], next[c]-j[c]
			if m[c] < min(i[c], j[c]) || m[c] > max(i[c], j[c]) || max(closer, -closer) > max(away, -away) {
				t.Error(i, j, k, d, m, next)
			}
		}
	}
}
