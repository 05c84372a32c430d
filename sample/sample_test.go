package sample

import (
	"math/big"
	"math/rand"
	"strings"
	"testing"

	"chase/api"
)

func mat(l ...int) api.Matrix {
	return api.Matrix{A: l[0], B: l[1], C: l[2], D: l[3], E: l[4], F: l[5]}
}

const one = api.One

var picture = api.Picture{W: 2, H: 2, N: 1, Data: "\x00\x55\xaa\xff", M: mat(3*one, 0, 0, 3*one, 10*one, 20*one)}

// P28.1
func TestCheck(t *testing.T) {
	for _, p := range []api.Picture{picture, {W: 64, H: 64, N: 4, Data: strings.Repeat("x", 64*64*4)}, {W: 1, H: 1, N: 3, Data: "abc"}} {
		if e := Check(p); e != api.OK {
			t.Error(e)
		}
	}
	for i, change := range []func(*api.Picture){
		func(p *api.Picture) { p.W = 0 }, func(p *api.Picture) { p.H = 0 }, func(p *api.Picture) { p.W, p.Data = 65, strings.Repeat("x", 130) }, func(p *api.Picture) { p.H, p.Data = 65, strings.Repeat("x", 130) }, func(p *api.Picture) { p.N, p.Data = 2, "12345678" }, func(p *api.Picture) { p.N, p.Data = 0, "" },
		func(p *api.Picture) { p.Data = "123" }, func(p *api.Picture) { p.Data = "12345" }, func(p *api.Picture) { p.M.A = 1<<24 + 1 }, func(p *api.Picture) { p.W, p.H = -2, -2 }, func(p *api.Picture) { p.W, p.H = 1<<32, 1<<32 },
	} {
		p := picture
		change(&p)
		_, _, is, e := Place(p, 9999, 0)
		_, is2, e2 := At(p, 9999, 0)
		if Check(p) != api.ErrImage || e != api.ErrImage || e2 != api.ErrImage || is || is2 {
			t.Error(i, e, e2)
		}
	}
}

// P28.2
func TestPlace(t *testing.T) {
	turned := picture
	turned.M.A, turned.M.E = -3*one, 16*one
	diagonal, flat := picture, picture
	diagonal.M = mat(0, one, one, 0, 0, 0)
	flat.M = mat(0, 0, 0, 0, 0, 0)
	for _, c := range []struct {
		p          api.Picture
		x, y, i, j int
		is         bool
	}{
		{picture, 10, 20, 0, 0, true}, {picture, 12, 22, 0, 0, true}, {picture, 13, 22, 1, 0, true}, {picture, 15, 25, 1, 1, true}, {picture, 9, 20, 0, 0, false}, {picture, 16, 20, 0, 0, false}, {picture, 10, 26, 0, 0, false}, {picture, 10, 19, 0, 0, false},
		{turned, 10, 20, 1, 0, true}, {turned, 15, 20, 0, 0, true}, {diagonal, 0, 1, 1, 0, true}, {diagonal, 1, 0, 0, 1, true}, {flat, 0, 0, 0, 0, false}, {picture, -1024, 1023, 0, 0, false},
	} {
		i, j, is, e := Place(c.p, c.x, c.y)
		if i != c.i || j != c.j || is != c.is || e != api.OK {
			t.Error(c, i, j, is, e)
		}
	}
	for _, c := range [][2]int{{1024, 0}, {-1025, 0}, {0, 1024}, {0, -1025}, {1 << 62, 0}} {
		for _, p := range []api.Picture{picture, flat} {
			i, j, is, e := Place(p, c[0], c[1])
			_, is2, e2 := At(p, c[0], c[1])
			if i != 0 || j != 0 || is || is2 || e != api.ErrArg || e2 != api.ErrArg {
				t.Error(c, e, e2)
			}
		}
	}
	for _, c := range []struct {
		x, y int
		want api.Ink
		is   bool
	}{{13, 23, api.Ink{}, true}, {10, 23, api.Ink{0, 0, 0, 85}, true}, {0, 0, api.Ink{}, false}, {10, 20, api.Ink{0, 0, 0, 255}, true}} {
		if i, is, e := At(picture, c.x, c.y); i != c.want || is != c.is || e != api.OK {
			t.Error(c, i, is, e)
		}
	}
	rgb := api.Picture{W: 1, H: 2, N: 3, Data: "zzz\x0a\x14\x1e", M: mat(one, 0, 0, one, 0, 0)}
	if i, is, e := At(rgb, 0, 1); i != (api.Ink{20, 10, 0, 225}) || !is || e != api.OK {
		t.Error(i, is, e)
	}
}

// The inverse image, with big numbers.
func TestExact(t *testing.T) {
	r := rand.New(rand.NewSource(1))
	found := 0
	for range 20000 {
		n := func(bits int) int { b := 1 + r.Intn(bits); return r.Intn(1<<b+1) - r.Intn(1<<b+1) }
		p := picture
		p.W, p.H, p.Data = 64, 64, strings.Repeat("x", 4096)
		p.M = mat(n(24), n(24), n(24), n(24), n(29), n(29))
		x, y := r.Intn(2048)-1024, r.Intn(2048)-1024
		a, b, c, d := int64(p.M.A), int64(p.M.B), int64(p.M.C), int64(p.M.D)
		det := a*d - b*c
		if det == 0 {
			continue
		}
		u, v := big.NewInt(int64(65536*x+32768-p.M.E)), big.NewInt(int64(65536*y+32768-p.M.F))
		floor := func(k, l int64) *big.Int {
			z := new(big.Int).Mul(big.NewInt(k), u)
			z.Add(z, new(big.Int).Mul(big.NewInt(l), v))
			q := new(big.Rat).SetFrac(z, big.NewInt(det))
			return new(big.Int).Div(q.Num(), q.Denom())
		}
		wi, wj := floor(d, -c), floor(-b, a)
		in := func(z *big.Int) bool { return z.Sign() >= 0 && z.Cmp(big.NewInt(64)) < 0 }
		i, j, is, e := Place(p, x, y)
		if want := in(wi) && in(wj); is != want || e != api.OK || is && (int64(i) != wi.Int64() || int64(j) != wj.Int64()) {
			t.Error(p.M, x, y, i, j, is)
		}
		if is {
			found++
		}
	}
	if found == 0 {
		t.Error("no pixel was in a picture")
	}
}

// P28.3
func TestConsequences(t *testing.T) {
	r := rand.New(rand.NewSource(2))
	for range 500 {
		sx, sy, ox, oy := 1+r.Intn(5), 1+r.Intn(5), r.Intn(40)-20, r.Intn(40)-20
		p := picture
		p.M = mat(sx*one, 0, 0, sy*one, ox*one, oy*one)
		x, y := r.Intn(60)-30, r.Intn(60)-30
		i, j, is, _ := Place(p, x, y)
		dx, dy := x-ox, y-oy
		in := dx >= 0 && dx < 2*sx && dy >= 0 && dy < 2*sy
		if is != in || in && (i != dx/sx || j != dy/sy) {
			t.Error(p.M, x, y)
		}
		mirror := p
		mirror.M.A, mirror.M.E = -p.M.A, p.M.E+2*p.M.A
		k, l, is2, _ := Place(mirror, x, y)
		if is2 != is || is && (k != 1-i || l != j) {
			t.Error(p.M, x, y)
		}
		any := picture
		any.M = mat(r.Intn(one), r.Intn(one), -r.Intn(one), r.Intn(one), r.Intn(one), r.Intn(one))
		moved := any
		moved.M.E, moved.M.F = any.M.E+7*one, any.M.F-9*one
		i, j, is, _ = Place(any, x, y)
		k, l, is2, _ = Place(moved, x+7, y-9)
		if i != k || j != l || is != is2 {
			t.Error(any.M, x, y)
		}
	}
}
