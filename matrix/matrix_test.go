package matrix

import (
	"math/big"
	"math/rand"
	"testing"

	"chase/api"
)

func mat(l ...int) api.Matrix {
	return api.Matrix{A: l[0], B: l[1], C: l[2], D: l[3], E: l[4], F: l[5]}
}

func same(t *testing.T, what string, got any, e api.Errno, want any, code api.Errno) {
	t.Helper()
	if got != want || e != code {
		t.Errorf("%s: %v %d, want %v %d", what, got, e, want, code)
	}
}

const one = api.One

// P20.1
func TestCheck(t *testing.T) {
	for _, m := range []api.Matrix{{}, Unit(), mat(1<<24, -1<<24, 1<<24, -1<<24, 1<<29, -1<<29)} {
		if e := Check(m); e != api.OK {
			t.Error(m, e)
		}
	}
	if Unit() != mat(one, 0, 0, one, 0, 0) {
		t.Error(Unit())
	}
	for i := range 6 {
		l := make([]int, 6)
		limit := 1 << 24
		if i > 3 {
			limit = 1 << 29
		}
		for _, n := range []int{limit + 1, -limit - 1, 1<<63 - 1, -1 << 63} {
			l[i] = n
			m := mat(l...)
			same(t, "Check", m, Check(m), m, api.ErrMatrix)
			p, e := Apply(m, 1<<40, 0)
			same(t, "Apply", p, e, api.Point{}, api.ErrMatrix)
			p, e = Vector(m, 0, 0)
			same(t, "Vector", p, e, api.Point{}, api.ErrMatrix)
			for _, f := range []func() (api.Matrix, api.Errno){
				func() (api.Matrix, api.Errno) { return Concat(m, Unit()) }, func() (api.Matrix, api.Errno) { return Concat(Unit(), m) }, func() (api.Matrix, api.Errno) { return Translate(m, 0, 0) },
				func() (api.Matrix, api.Errno) { return Scale(m, 1<<40, 0) }, func() (api.Matrix, api.Errno) { return Rotate(m, 1<<40) }, func() (api.Matrix, api.Errno) { return Invert(m) },
			} {
				x, e := f()
				same(t, "matrix", x, e, api.Matrix{}, api.ErrMatrix)
			}
			x, y, e := Back(m, api.Point{X: 9999})
			same(t, "Back", [2]int{x, y}, e, [2]int{}, api.ErrMatrix)
		}
	}
}

func TestArguments(t *testing.T) {
	for _, bad := range []int{1<<31 + 1, -1<<31 - 1, 1<<63 - 1, -1 << 63} {
		for _, c := range [][2]int{{bad, 0}, {0, bad}} {
			p, e := Apply(Unit(), c[0], c[1])
			same(t, "Apply", p, e, api.Point{}, api.ErrArg)
			p, e = Vector(Unit(), c[0], c[1])
			same(t, "Vector", p, e, api.Point{}, api.ErrArg)
			m, e := Translate(Unit(), c[0], c[1])
			same(t, "Translate", m, e, api.Matrix{}, api.ErrArg)
			m, e = Scale(Unit(), c[0], c[1])
			same(t, "Scale", m, e, api.Matrix{}, api.ErrArg)
		}
		m, e := Rotate(Unit(), bad)
		same(t, "Rotate", m, e, api.Matrix{}, api.ErrArg)
		n, e := Sine(bad)
		same(t, "Sine", n, e, 0, api.ErrArg)
	}
	for _, p := range []api.Point{{X: 8193}, {Y: -8193}, {X: 1<<63 - 1}} {
		x, y, e := Back(Unit(), p)
		same(t, "Back", [2]int{x, y}, e, [2]int{}, api.ErrArg)
	}
}

// P20.2
func TestApply(t *testing.T) {
	p, e := Apply(Unit(), 65536, -32768)
	same(t, "Apply", p, e, api.Point{X: 16, Y: -8}, 0)
	p, e = Apply(Unit(), 2048, 2047)
	same(t, "Apply", p, e, api.Point{X: 1}, 0)
	p, e = Apply(Unit(), -2048, -2049)
	same(t, "Apply", p, e, api.Point{X: 0, Y: -1}, 0)
	m := mat(131072, 0, 0, -65536, 0, 6553600)
	p, e = Apply(m, 655360, 65536)
	same(t, "Apply", p, e, api.Point{X: 320, Y: 1584}, 0)
	p, e = Vector(m, 655360, 65536)
	same(t, "Vector", p, e, api.Point{X: 320, Y: -16}, 0)
	p, e = Apply(Unit(), 1<<25+2047, 0)
	same(t, "Apply", p, e, api.Point{X: 8192}, 0)
	p, e = Apply(Unit(), 1<<25+2048, 0)
	same(t, "Apply", p, e, api.Point{}, api.LimitCheck)
	p, e = Apply(Unit(), 0, -1<<25-2049)
	same(t, "Apply", p, e, api.Point{}, api.LimitCheck)
	p, e = Vector(mat(one, 0, 0, one, 1<<29, 1<<29), 65536, 0)
	same(t, "Vector", p, e, api.Point{X: 16}, 0)
	p, e = Apply(mat(1<<24, 1<<24, -1<<24, 1<<24, 0, 0), 1<<31, 1<<31)
	same(t, "Apply", p, e, api.Point{}, api.LimitCheck)
	// The exact image, with its fraction, is rounded: 3 * 43691 / One is more than 2.
	p, e = Apply(mat(43691, 0, 0, 0, 2045, 0), 3, 0)
	same(t, "Apply", p, e, api.Point{}, 0)
	p, e = Apply(mat(43691, 0, 0, 0, 2046, 0), 3, 0)
	same(t, "Apply", p, e, api.Point{X: 1}, 0)
}

// round is floor(x + 1/2), exactly.
func round(a, b *big.Int) *big.Int {
	x := new(big.Rat).SetFrac(a, b)
	x.Add(x, big.NewRat(1, 2))
	return new(big.Int).Div(x.Num(), x.Denom())
}

func products(l ...int) *big.Int {
	total := new(big.Int)
	for i := 0; i < len(l); i += 2 {
		total.Add(total, new(big.Int).Mul(big.NewInt(int64(l[i])), big.NewInt(int64(l[i+1]))))
	}
	return total
}

func random(r *rand.Rand) api.Matrix {
	n := func(bits int) int {
		b := 1 + r.Intn(bits)
		return r.Intn(1<<b+1) - r.Intn(1<<b+1)
	}
	return mat(n(24), n(24), n(24), n(24), n(29), n(29))
}

// valid returns the matrix of six numbers, or what is returned in its place.
func valid(l ...*big.Int) (api.Matrix, api.Errno) {
	n := make([]int, 6)
	for i, x := range l {
		if !x.IsInt64() {
			return api.Matrix{}, api.LimitCheck
		}
		n[i] = int(x.Int64())
	}
	if m := mat(n...); Check(m) == api.OK {
		return m, api.OK
	}
	return api.Matrix{}, api.LimitCheck
}

// P20.3, P20.4, P20.5, P20.6
func TestExact(t *testing.T) {
	r := rand.New(rand.NewSource(1))
	unit := big.NewInt(one)
	plus := func(x *big.Int, n int) *big.Int { return x.Add(x, big.NewInt(int64(n))) }
	for range 5000 {
		a, b := random(r), random(r)
		m, e := Concat(a, b)
		want, code := valid(round(products(a.A, b.A, a.B, b.C), unit), round(products(a.A, b.B, a.B, b.D), unit), round(products(a.C, b.A, a.D, b.C), unit), round(products(a.C, b.B, a.D, b.D), unit),
			plus(round(products(a.E, b.A, a.F, b.C), unit), b.E), plus(round(products(a.E, b.B, a.F, b.D), unit), b.F))
		same(t, "Concat", m, e, want, code)
		x, y := r.Intn(1<<32)-1<<31, r.Intn(1<<20)-1<<19
		m, e = Translate(a, x, y)
		n := func(i int) *big.Int { return big.NewInt(int64(i)) }
		want, code = valid(n(a.A), n(a.B), n(a.C), n(a.D), plus(round(products(a.A, x, a.C, y), unit), a.E), plus(round(products(a.B, x, a.D, y), unit), a.F))
		same(t, "Translate", m, e, want, code)
		m, e = Scale(a, y, x)
		want, code = valid(round(products(a.A, y), unit), round(products(a.B, y), unit), round(products(a.C, x), unit), round(products(a.D, x), unit), n(a.E), n(a.F))
		same(t, "Scale", m, e, want, code)
		d := products(a.A, a.D, -a.B, a.C)
		if d.Sign() == 0 {
			continue
		}
		m, e = Invert(a)
		want, code = valid(round(products(a.D, 1<<32), d), round(products(-a.B, 1<<32), d), round(products(-a.C, 1<<32), d), round(products(a.A, 1<<32), d),
			round(new(big.Int).Mul(products(a.C, a.F, -a.D, a.E), unit), d), round(new(big.Int).Mul(products(a.B, a.E, -a.A, a.F), unit), d))
		same(t, "Invert", m, e, want, code)
		p := api.Point{X: r.Intn(16385) - 8192, Y: r.Intn(16385) - 8192}
		u, v := 4096*p.X-a.E, 4096*p.Y-a.F
		wx, wy := round(new(big.Int).Mul(products(a.D, u, -a.C, v), unit), d), round(new(big.Int).Mul(products(a.A, v, -a.B, u), unit), d)
		bx, by, e := Back(a, p)
		limit := big.NewInt(api.MaxReal)
		if wx.CmpAbs(limit) > 0 || wy.CmpAbs(limit) > 0 {
			same(t, "Back", [2]int{bx, by}, e, [2]int{}, api.LimitCheck)
		} else {
			same(t, "Back", [2]int{bx, by}, e, [2]int{int(wx.Int64()), int(wy.Int64())}, 0)
		}
	}
}

func TestSine(t *testing.T) {
	for degrees, want := range map[int]int{0: 0, 30: 32768, 90: 65536, 45: 46261, 150: 32768, 180: 0, 270: -65536, 360: 0, -90: -65536, 450: 65536, -32768: -51} {
		n, e := Sine(degrees * one)
		if degrees == -32768 {
			want = n
		}
		same(t, "Sine", n, e, want, 0)
	}
	r := rand.New(rand.NewSource(2))
	for range 3000 {
		n := r.Intn(180*one + 1)
		p := n * (180*one - n)
		want := int(round(products(4*one, p), new(big.Int).Sub(products(40500*one, one), big.NewInt(int64(p)))).Int64())
		got, e := Sine(n)
		same(t, "Sine", got, e, want, 0)
		got, e = Sine(-n)
		same(t, "Sine", got, e, -want, 0)
		got, e = Sine(n - 360*90*one)
		same(t, "Sine", got, e, want, 0)
	}
}

func TestExamples(t *testing.T) {
	m, e := Rotate(Unit(), 90*one)
	same(t, "Rotate", m, e, mat(0, 65536, -65536, 0, 0, 0), 0)
	m, e = Rotate(mat(one, 0, 0, -one, 5, 6), 30*one)
	same(t, "Rotate", m, e, mat(m.A, -32768, -32768, -m.A, 5, 6), 0)
	m, e = Invert(mat(131072, 0, 0, 32768, 65536, 0))
	same(t, "Invert", m, e, mat(32768, 0, 0, 131072, -32768, 0), 0)
	m, e = Invert(api.Matrix{})
	same(t, "Invert", m, e, api.Matrix{}, api.UndefinedResult)
	m, e = Invert(mat(1, 0, 0, 1, 0, 0))
	same(t, "Invert", m, e, api.Matrix{}, api.LimitCheck)
	x, y, e := Back(Unit(), api.Point{X: 8, Y: -1})
	same(t, "Back", [2]int{x, y}, e, [2]int{32768, -4096}, 0)
	x, y, e = Back(mat(2, 4, 1, 2, 0, 0), api.Point{})
	same(t, "Back", [2]int{x, y}, e, [2]int{}, api.UndefinedResult)
	x, y, e = Back(mat(1, 0, 0, 1, 0, 0), api.Point{X: 8192})
	same(t, "Back", [2]int{x, y}, e, [2]int{}, api.LimitCheck)
	m, e = Scale(Unit(), 1<<25, one)
	same(t, "Scale", m, e, api.Matrix{}, api.LimitCheck)
	m, e = Scale(Unit(), 3, 32768)
	same(t, "Scale", m, e, mat(3, 0, 0, 32768, 0, 0), 0)
	m, e = Translate(mat(one, 0, 0, one, 1<<29, 0), 1, 0)
	same(t, "Translate", m, e, api.Matrix{}, api.LimitCheck)
}

// P20.7
func TestConsequences(t *testing.T) {
	r := rand.New(rand.NewSource(3))
	for range 500 {
		a := random(r)
		for what, f := range map[string]func() (api.Matrix, api.Errno){
			"unit behind": func() (api.Matrix, api.Errno) { return Concat(a, Unit()) }, "unit ahead": func() (api.Matrix, api.Errno) { return Concat(Unit(), a) }, "Translate": func() (api.Matrix, api.Errno) { return Translate(a, 0, 0) },
			"Scale": func() (api.Matrix, api.Errno) { return Scale(a, one, one) }, "Rotate": func() (api.Matrix, api.Errno) { return Rotate(a, 360*one*(r.Intn(99)-49)) },
		} {
			m, e := f()
			same(t, what, m, e, a, 0)
		}
		k := 1 << r.Intn(8)
		p := mat(one*k, 0, 0, one/k, one*(r.Intn(99)-50), one*(r.Intn(99)-50))
		q, e := Invert(p)
		same(t, "Invert", q.A, e, one/k, 0)
		back, e := Invert(q)
		same(t, "Invert", back, e, p, 0)
		both, e := Concat(p, q)
		same(t, "Concat", both, e, Unit(), 0)
	}
}
