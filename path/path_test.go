package path

import (
	"math/rand"
	"slices"
	"strings"
	"testing"

	"chase/api"
	"chase/sketch"
)

func is(t *testing.T, what string, p api.Path, e api.Errno, want string, code api.Errno) {
	t.Helper()
	if !slices.Equal(p, sketch.Path(want)) || e != code {
		t.Errorf("%s: %v %d, want %s %d", what, p, e, want, code)
	}
}

func bad() []api.Path {
	l := []api.Path{}
	for _, text := range []string{"L 1 1", "M 1 1, M 2 2", "M 1 1, Z, Z", "M 1 1, Z, L 2 2", "M 1 1, Z, C 1 1 2 2 3 3", "Z", "M 16385 0", "M 0 -16385", "M 1 1, C 0 0 16385 0 0 0", "M 1 1, L 0 0 1 0", "M 1 1, M 0 0 0 0 0 1", "M 1 1, Z 1 1", "M 1 1, L 2 2, M 3 3, M 4 4"} {
		l = append(l, sketch.Path(text))
	}
	return append(l, api.Path{{}}, api.Path{{Kind: 5}}, api.Path{{Kind: -1}}, sketch.Path("M 1 1, "+strings.Repeat("L 2 2, ", 300)))
}

// P21.1
func TestCheck(t *testing.T) {
	for _, text := range []string{"", "M 1 2", "M 1 2, Z", "M 1 2, Z, M 3 4, L 5 6, C 1 2 3 4 5 6, M 1 1", "M 16384 -16384", "M 1 1, " + strings.Repeat("L 2 2, ", 299)} {
		p := sketch.Path(text)
		flat, e := Flat(p)
		if Check(p) != api.OK || e != api.OK || flat == strings.Contains(text, "C") {
			t.Error(text)
		}
	}
	for _, p := range bad() {
		if Check(p) != api.ErrPath {
			t.Errorf("%v", p)
		}
		flat, e := Flat(p)
		_, e1 := Current(p)
		_, _, e2 := Box(p)
		parts, e3 := Parts(p)
		if flat || parts != nil || e != api.ErrPath || e1 != api.ErrPath || e2 != api.ErrPath || e3 != api.ErrPath {
			t.Errorf("%v", p)
		}
		q, e := Add(p, api.Step{})
		is(t, "Add", q, e, "", api.ErrPath)
		q, e = Join(p, nil)
		is(t, "Join", q, e, "", api.ErrPath)
		q, e = Join(nil, p)
		is(t, "Join", q, e, "", api.ErrPath)
		q, e = Reverse(p)
		is(t, "Reverse", q, e, "", api.ErrPath)
		q, e = Shift(p, 1<<40, 0)
		is(t, "Shift", q, e, "", api.ErrPath)
	}
}

// P21.2
func TestAdd(t *testing.T) {
	for _, c := range []struct {
		p, s, want string
		e          api.Errno
	}{
		{"", "L 1 1", "", api.NoCurrentPoint}, {"", "Z", "", api.NoCurrentPoint}, {"", "C 1 1 1 1 1 1", "", api.NoCurrentPoint}, {"", "M 1 2", "M 1 2", 0}, {"M 1 2", "M 3 4", "M 3 4", 0}, {"M 1 2", "Z", "M 1 2, Z", 0},
		{"M 1 2, L 5 6, Z", "L 7 8", "M 1 2, L 5 6, Z, M 1 2, L 7 8", 0}, {"M 1 2, Z", "C 1 1 2 2 3 3", "M 1 2, Z, M 1 2, C 1 1 2 2 3 3", 0}, {"M 1 2, Z", "Z", "M 1 2, Z", 0}, {"M 1 2, Z", "M 1 2", "M 1 2, Z, M 1 2", 0}, {"M 1 2, L 3 4", "M 5 6", "M 1 2, L 3 4, M 5 6", 0},
		{"", "L 16385 0", "", api.ErrArg}, {"M 1 2", "L 1 1 0 1", "", api.ErrArg}, {"M 1 2", "Z 1 0", "", api.ErrArg}, {"M 1 2", "Q 1 0", "", api.ErrArg},
	} {
		q, e := Add(sketch.Path(c.p), sketch.Path(c.s)[0])
		is(t, c.p+" + "+c.s, q, e, c.want, c.e)
	}
	full := sketch.Path("M 1 1, " + strings.Repeat("L 2 2, ", 298) + "Z")
	for s, want := range map[string]api.Errno{"L 1 1": api.LimitCheck, "M 1 1": api.LimitCheck, "Z": 0} {
		if _, e := Add(full, sketch.Path(s)[0]); e != want {
			t.Error(s, e)
		}
	}
	if q, e := Add(full[:298], sketch.Path("Z")[0]); len(q) != 299 || e != 0 {
		t.Error(e)
	}
	if _, e := Add(append(full[:298:298], sketch.Path("Z")...), sketch.Path("L 1 1")[0]); e != api.LimitCheck {
		t.Error("a Line behind a Close needs two steps", e)
	}
	if full[298].Kind != api.Line {
		t.Error("Add wrote into a path")
	}
}

// P21.3
func TestCurrentAndBox(t *testing.T) {
	for text, want := range map[string]api.Point{"M 1 2, L 5 6, Z": {X: 1, Y: 2}, "M 1 2, C 3 3 4 4 5 6": {X: 5, Y: 6}, "M 1 2": {X: 1, Y: 2}, "M 1 2, L 5 6": {X: 5, Y: 6}, "M 0 0, L 1 1, M 7 8, L 9 9, Z": {X: 7, Y: 8}} {
		if q, e := Current(sketch.Path(text)); q != want || e != api.OK {
			t.Error(text, q, e)
		}
	}
	low, high, e := Box(sketch.Path("M 1 2, C -3 3 9 4 5 6, Z"))
	if low != (api.Point{X: -3, Y: 2}) || high != (api.Point{X: 9, Y: 6}) || e != 0 {
		t.Error(low, high, e)
	}
	_, e = Current(nil)
	low, high, e2 := Box(nil)
	if e != api.NoCurrentPoint || e2 != api.NoCurrentPoint || low != high {
		t.Error(e, e2)
	}
}

// P21.4
func TestPartsAndJoin(t *testing.T) {
	l, e := Parts(sketch.Path("M 1 1, Z, M 2 2, L 3 3, M 4 4"))
	if len(l) != 3 || e != 0 {
		t.Fatal(l, e)
	}
	for i, want := range []string{"M 1 1, Z", "M 2 2, L 3 3", "M 4 4"} {
		is(t, "part", l[i], 0, want, 0)
	}
	if l, e := Parts(nil); len(l) != 0 || e != 0 {
		t.Error(l, e)
	}
	for _, c := range [][3]string{{"M 1 1, L 2 2, M 3 3", "M 4 4", "M 1 1, L 2 2, M 4 4"}, {"M 1 1", "", "M 1 1"}, {"", "M 1 1", "M 1 1"}, {"M 1 1", "M 2 2, Z", "M 2 2, Z"}, {"M 1 1, Z", "M 2 2", "M 1 1, Z, M 2 2"}, {"", "", ""}} {
		q, e := Join(sketch.Path(c[0]), sketch.Path(c[1]))
		is(t, c[0]+" + "+c[1], q, e, c[2], 0)
	}
	half := sketch.Path("M 1 1, " + strings.Repeat("L 2 2, ", 149))
	if q, e := Join(half, half); len(q) != 300 || e != 0 {
		t.Error(e)
	}
	if q, e := Join(half, append(half, sketch.Path("Z")...)); q != nil || e != api.LimitCheck {
		t.Error(e)
	}
}

// P21.5
func TestReverseAndShift(t *testing.T) {
	for text, want := range map[string]string{"M 1 2, L 3 4, C 5 5 6 6 7 8, Z": "M 7 8, C 6 6 5 5 3 4, L 1 2, Z", "": "", "M 1 2": "M 1 2", "M 1 2, Z": "M 1 2, Z", "M 1 2, L 3 4, M 5 6, L 7 8, Z": "M 3 4, L 1 2, M 7 8, L 5 6, Z"} {
		q, e := Reverse(sketch.Path(text))
		is(t, text, q, e, want, 0)
	}
	for _, c := range []struct {
		p    string
		x, y int
		want string
		e    api.Errno
	}{
		{"M 16384 0", 1, 0, "", api.LimitCheck}, {"M 16384 0", -1, 0, "M 16383 0", 0}, {"M 1 2, C 1 2 3 4 5 6, Z", 10, 20, "M 11 22, C 11 22 13 24 15 26, Z", 0}, {"M -16384 0", 32768, 0, "M 16384 0", 0}, {"M 0 0", 32769, 0, "", api.ErrArg}, {"M 0 0", 0, -32769, "", api.ErrArg}, {"", 32768, -32768, "", 0}, {"M 0 0", 0, -16385, "", api.LimitCheck},
	} {
		q, e := Shift(sketch.Path(c.p), c.x, c.y)
		is(t, c.p, q, e, c.want, c.e)
	}
}

func random(r *rand.Rand) api.Path {
	var p api.Path
	for range r.Intn(20) {
		n := func() api.Point { return api.Point{X: r.Intn(99) - 50, Y: r.Intn(99) - 50} }
		s := api.Step{Kind: 1 + r.Intn(4)}
		for i := range used(s) {
			s.P[i] = n()
		}
		if q, e := Add(p, s); e == api.OK {
			p = q
		}
	}
	return p
}

// P21.6
func TestConsequences(t *testing.T) {
	r := rand.New(rand.NewSource(1))
	for range 1000 {
		p := random(r)
		before := slices.Clone(p)
		if Check(p) != api.OK {
			t.Fatal(p)
		}
		var joined api.Path
		l, _ := Parts(p)
		for _, part := range l {
			joined, _ = Join(joined, part)
		}
		if !slices.Equal(joined, p) {
			t.Error("parts", p)
		}
		back, _ := Reverse(p)
		low, high, e := Box(p)
		low2, high2, e2 := Box(back)
		if low != low2 || high != high2 || e != e2 || Check(back) != api.OK {
			t.Error("the box of the reverse", p)
		}
		if again, _ := Reverse(back); !slices.Equal(again, p) {
			t.Error("reversed twice", p)
		}
		x, y := r.Intn(999)-500, r.Intn(999)-500
		moved, _ := Shift(p, x, y)
		low2, high2, _ = Box(moved)
		if e == api.OK && (low2 != api.Point{X: low.X + x, Y: low.Y + y} || high2 != api.Point{X: high.X + x, Y: high.Y + y}) {
			t.Error("the shifted box", p)
		}
		if home, _ := Shift(moved, -x, -y); !slices.Equal(home, p) {
			t.Error("shifted back", p)
		}
		a, e := Add(p, api.Step{Kind: api.Move})
		b, e2 := Add(p, api.Step{Kind: api.Move, P: [3]api.Point{{X: 1}}})
		if e != 0 || e2 != 0 || a[len(a)-1] == b[len(b)-1] || !slices.Equal(p, before) {
			t.Error("Add shares memory", p)
		}
	}
}
