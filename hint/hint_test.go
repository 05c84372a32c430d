package hint

import (
	"math/rand"
	"reflect"
	"testing"

	"chase/api"
)

func up(at, long int) api.Stem { return api.Stem{At: at, Long: long} }

func knots(l ...int) []api.Knot {
	var out []api.Knot
	for i := 0; i < len(l); i += 2 {
		out = append(out, api.Knot{From: l[i], To: l[i+1]})
	}
	return out
}

func hinted(l ...int) api.Hint { return api.Hint{Scale: 65536, Knots: knots(l...)} }

// P34.1
func TestPlaceAndCheck(t *testing.T) {
	for _, c := range []struct {
		scale, offset, u, want int
		e                      api.Errno
	}{
		{65536, 32768, 5, 6, 0}, {32768, 0, 5, 3, 0}, {32768, 0, -5, -2, 0}, {0, 0, 0, 0, api.ErrArg}, {1 << 24, 1 << 40, 32000, 256*32000 + 1<<24, 0}, {1 << 24, -1 << 40, -32000, -256*32000 - 1<<24, 0}, {1, 0, 32000, 0, 0},
		{1<<24 + 1, 0, 0, 0, api.ErrArg}, {1, 1<<40 + 1, 0, 0, api.ErrArg}, {1, -1<<40 - 1, 0, 0, api.ErrArg}, {1, 0, 32001, 0, api.ErrArg}, {1, 0, -32001, 0, api.ErrArg}, {-5, 0, 0, 0, api.ErrArg},
	} {
		if n, e := Place(c.scale, c.offset, c.u); n != c.want || e != c.e {
			t.Error(c, n, e)
		}
	}
	var many, more []api.Knot
	for i := range 82 {
		more = append(more, api.Knot{From: i, To: 16 * i})
	}
	many = more[:80]
	for _, h := range []api.Hint{hinted(), hinted(1, 16, 2, 32), hinted(-32000, -1<<40, 5, 0, 6, 0, 32000, 1<<40), {Scale: 1 << 24, Offset: -1 << 40, Knots: many}} {
		if e := Check(h); e != api.OK {
			t.Error(h, e)
		}
	}
	for i, h := range []api.Hint{
		{}, {Scale: 1<<24 + 1}, {Scale: 1, Offset: 1<<40 + 1}, hinted(0, 0), hinted(0, 0, 0, 16), hinted(5, 0, 4, 16), hinted(0, 0, 1, 8), hinted(0, 8, 1, 16), hinted(0, 16, 1, 16), hinted(0, 16, 1, 0), hinted(0, 0, 1, 32, 2, 16, 3, 48), hinted(0, 0, 1, 16, 2, 16, 3, 16), hinted(-32001, 0, 1, 16), hinted(0, 0, 32001, 16),
		hinted(0, 0, 1, 1<<40+16), hinted(0, -1<<40-16, 1, 16), {Scale: 1, Knots: more},
	} {
		n, e := Map(h, 99999)
		if Check(h) != api.ErrHint || n != 0 || e != api.ErrHint {
			t.Error(i, e)
		}
	}
}

// P34.2
func TestFit(t *testing.T) {
	for _, c := range []struct {
		stems         []api.Stem
		scale, offset int
		want          []api.Knot
	}{
		{[]api.Stem{up(10, 20)}, 65536, 0, knots(10, 16, 30, 32)}, {[]api.Stem{up(10, 2), up(11, 39), up(20, 16)}, 65536, 0, knots(10, 16, 12, 32, 20, 32, 36, 48)}, {[]api.Stem{{Vertical: true, At: 1, Long: 2}}, 65536, 0, nil}, {nil, 65536, 0, nil},
		{[]api.Stem{up(20, 16), up(11, 39), up(10, 2)}, 65536, 0, knots(10, 16, 12, 32, 20, 32, 36, 48)}, {[]api.Stem{up(10, 9), up(10, 2), up(13, 1)}, 65536, 0, knots(10, 16, 12, 32, 13, 32, 14, 48)}, {[]api.Stem{up(10, 2), up(12, 5)}, 65536, 0, knots(10, 16, 12, 32)},
		{[]api.Stem{up(0, 24)}, 65536, 7 << 16, knots(0, 0, 24, 32)}, {[]api.Stem{up(0, 24)}, 65536, 8 << 16, knots(0, 16, 24, 48)}, {[]api.Stem{up(-9, 23)}, 65536, 0, knots(-9, -16, 14, 0)}, {[]api.Stem{up(-32000, 64000)}, 1, 0, knots(-32000, 0, 32000, 16)},
	} {
		h, e := Fit(c.stems, false, c.scale, c.offset)
		if h.Scale != c.scale || h.Offset != c.offset || !reflect.DeepEqual(h.Knots, c.want) || e != api.OK || Check(h) != api.OK {
			t.Error(c, h, e)
		}
	}
	both := []api.Stem{up(10, 20), {Vertical: true, At: 40, Long: 50}}
	if h, e := Fit(both, true, 65536, 0); !reflect.DeepEqual(h.Knots, knots(40, 48, 90, 96)) || e != api.OK {
		t.Error(h, e)
	}
	many := make([]api.Stem, 41)
	for i := range many {
		many[i].Long = 1
	}
	for i, c := range []struct {
		stems         []api.Stem
		scale, offset int
		e             api.Errno
	}{
		{many, 0, 0, api.ErrLong}, {[]api.Stem{up(0, 0)}, 1, 0, api.ErrArg}, {[]api.Stem{up(0, 1), {Vertical: true}}, 1, 0, api.ErrArg}, {[]api.Stem{up(0, -1)}, 1, 0, api.ErrArg}, {[]api.Stem{up(32000, 1)}, 1, 0, api.ErrArg}, {[]api.Stem{up(-32001, 5)}, 1, 0, api.ErrArg}, {[]api.Stem{up(1<<62, 1<<62)}, 1, 0, api.ErrArg},
		{nil, 0, 0, api.ErrArg}, {nil, 1<<24 + 1, 0, api.ErrArg}, {nil, 1, 1<<40 + 1, api.ErrArg},
	} {
		h, e := Fit(c.stems, false, c.scale, c.offset)
		if !reflect.DeepEqual(h, api.Hint{}) || e != c.e {
			t.Error(i, e)
		}
	}
	if many[0].Long != 1 || both[0] != up(10, 20) {
		t.Error("Fit sorts its argument")
	}
}

// P34.3
func TestMap(t *testing.T) {
	h := hinted(10, 16, 30, 32)
	for u, want := range map[int]int{10: 16, 30: 32, 20: 24, 0: 6, 40: 42, 11: 16, 12: 17, 29: 31} {
		if n, e := Map(h, u); n != want || e != api.OK {
			t.Error(u, n, e)
		}
	}
	if n, e := Map(hinted(), 7); n != 7 || e != api.OK {
		t.Error(n, e)
	}
	if n, e := Map(hinted(-32000, -1<<40, 32000, 1<<40), 31999); n != 1<<40-1<<41/64000-1 || e != api.OK {
		t.Error(n, e)
	}
	for _, u := range []int{32001, -32001} {
		if n, e := Map(h, u); n != 0 || e != api.ErrArg {
			t.Error(u, e)
		}
	}
}

// P34.4
func TestConsequences(t *testing.T) {
	r := rand.New(rand.NewSource(1))
	for range 2000 {
		scale, offset := 1+r.Intn(1<<(10+r.Intn(14))), r.Intn(1<<24)-1<<23
		var stems []api.Stem
		for range r.Intn(8) {
			stems = append(stems, api.Stem{Vertical: r.Intn(3) == 0, At: r.Intn(2000) - 1000, Long: 1 + r.Intn(300)})
		}
		h, e := Fit(stems, false, scale, offset)
		if e != api.OK || Check(h) != api.OK {
			t.Fatal(stems, h, e)
		}
		r.Shuffle(len(stems), func(i, j int) { stems[i], stems[j] = stems[j], stems[i] })
		if again, _ := Fit(stems, false, scale, offset); !reflect.DeepEqual(again, h) {
			t.Error("the order of the stems")
		}
		for i := 0; i < len(h.Knots); i += 2 {
			a, _ := Map(h, h.Knots[i].From)
			b, _ := Map(h, h.Knots[i+1].From)
			if a%16 != 0 || b%16 != 0 || b < a+16 || a != h.Knots[i].To || b != h.Knots[i+1].To {
				t.Error(h)
			}
			if at, _ := Place(scale, offset, h.Knots[0].From); i == 0 && (a-at > 8 || at-a > 8) {
				t.Error("the lower edge", h)
			}
		}
		last := -1 << 62
		for u := -1100; u < 1400; u += 1 + r.Intn(9) {
			n, _ := Map(h, u)
			if n < last {
				t.Fatal("decreases", h, u)
			}
			last = n
			if p, _ := Place(scale, offset, u); len(h.Knots) == 0 && n != p {
				t.Error("without stems")
			}
		}
	}
}
