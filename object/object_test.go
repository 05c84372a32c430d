package object

import (
	"math/rand"
	"strings"
	"testing"

	"chase/api"
)

func in(n int) api.Obj      { return api.Obj{Kind: api.KInt, N: n} }
func re(n int) api.Obj      { return api.Obj{Kind: api.KReal, N: n} }
func name(s string) api.Obj { return api.Obj{Kind: api.KName, Name: s} }

func same(t *testing.T, what string, got any, e api.Errno, want any, code api.Errno) {
	t.Helper()
	if got != want || e != code {
		t.Errorf("%s: %v, error %d; want %v, error %d", what, got, e, want, code)
	}
}

var good = []api.Obj{
	{}, {Exec: true}, {Kind: api.KMark}, {Kind: api.KBool}, {Kind: api.KBool, N: 1}, in(1<<31 - 1), in(-1 << 31), re(1 << 31), re(-1 << 31), name(""), name(strings.Repeat("x", 100)),
	{Kind: api.KString, Ref: 20000, Off: 1000}, {Kind: api.KString, Len: 1000}, {Kind: api.KArray, Off: 400, Len: 600}, {Kind: api.KPacked, Ref: 1, Exec: true}, {Kind: api.KDict, Ref: 20000}, {Kind: api.KOperator, Name: "x"},
	{Kind: api.KFile}, {Kind: api.KSave, N: 1}, {Kind: api.KSave, N: 1 << 60},
}

var bad = []api.Obj{
	{Kind: -1}, {Kind: api.Kinds}, {N: 1}, {Name: "x"}, {Ref: 1}, {Off: 1}, {Len: 1}, {Kind: api.KMark, N: 1}, {Kind: api.KBool, N: 2}, {Kind: api.KBool, N: -1}, in(1 << 31), in(-1<<31 - 1), re(1<<31 + 1), re(-1<<31 - 1),
	{Kind: api.KInt, Name: "1"}, {Kind: api.KReal, Ref: 1}, name(strings.Repeat("x", 101)), {Kind: api.KName, N: 1}, {Kind: api.KOperator}, {Kind: api.KOperator, Name: strings.Repeat("x", 101)},
	{Kind: api.KString, Off: -1}, {Kind: api.KString, Len: -1}, {Kind: api.KString, Off: 1, Len: 1000}, {Kind: api.KString, Ref: 20001}, {Kind: api.KString, Ref: -1}, {Kind: api.KString, N: 1}, {Kind: api.KString, Name: "x"},
	{Kind: api.KArray, Off: 1001}, {Kind: api.KPacked, Off: 1 << 62, Len: 1 << 62}, {Kind: api.KPacked, Off: -5, Len: 5}, {Kind: api.KDict, Off: 1}, {Kind: api.KDict, Len: 1}, {Kind: api.KFile, N: 1}, {Kind: api.KFile, Ref: 20001}, {Kind: api.KSave}, {Kind: api.KSave, N: 1, Ref: 1},
}

// P10.1
func TestCheck(t *testing.T) {
	for _, o := range good {
		if e := Check(o); e != api.OK {
			t.Errorf("%v: %d", o, e)
		}
	}
	for _, o := range bad {
		same(t, "Check", o, Check(o), o, api.ErrObject)
		s, e := KindName(o)
		same(t, "KindName", s, e, "", api.ErrObject)
		n, e := Value(o)
		same(t, "Value", n, e, 0, api.ErrObject)
		for _, f := range []func(api.Obj) (api.Obj, api.Errno){ToReal, ToInt, Key} {
			x, e := f(o)
			same(t, "one", x, e, api.Obj{}, api.ErrObject)
		}
		n, e = Compare(o, name("a"))
		same(t, "Compare", n, e, 0, api.ErrObject)
		n, e = Compare(name("a"), o)
		same(t, "Compare", n, e, 0, api.ErrObject)
	}
	names := "nulltype marktype booleantype integertype realtype nametype stringtype arraytype packedarraytype dicttype operatortype filetype savetype"
	for i, want := range strings.Fields(names) {
		o := api.Obj{Kind: i}
		switch i {
		case api.KOperator:
			o.Name = "x"
		case api.KSave:
			o.N = 1
		}
		s, e := KindName(o)
		same(t, "KindName", s, e, want, api.OK)
	}
}

// P10.2
func TestConstructors(t *testing.T) {
	o, e := Int(-1 << 31)
	same(t, "Int", o, e, in(-1<<31), api.OK)
	for _, n := range []int{1 << 31, -1<<31 - 1, 1<<63 - 1} {
		o, e = Int(n)
		same(t, "Int", o, e, api.Obj{}, api.ErrArg)
	}
	o, e = Real(1 << 31)
	same(t, "Real", o, e, re(1<<31), api.OK)
	for _, n := range []int{1<<31 + 1, -1<<31 - 1} {
		o, e = Real(n)
		same(t, "Real", o, e, api.Obj{}, api.ErrArg)
	}
	if Bool(true) != (api.Obj{Kind: api.KBool, N: 1}) || Bool(false) != (api.Obj{Kind: api.KBool}) {
		t.Error("Bool")
	}
	o, e = Name("a", true)
	same(t, "Name", o, e, api.Obj{Kind: api.KName, Exec: true, Name: "a"}, api.OK)
	o, e = Name(strings.Repeat("x", 101), false)
	same(t, "Name", o, e, api.Obj{}, api.ErrArg)
}

// P10.3
func TestNumbers(t *testing.T) {
	n, e := Value(in(3))
	same(t, "Value", n, e, 196608, api.OK)
	n, e = Value(re(-32768))
	same(t, "Value", n, e, -32768, api.OK)
	for _, c := range []struct {
		a, b api.Obj
		want int
	}{{in(2), re(163840), -1}, {in(2), re(131072), 0}, {in(1<<31 - 1), re(1 << 31), 1}, {in(-1), in(1), -1}, {re(-1), in(0), -1}} {
		n, e = Compare(c.a, c.b)
		same(t, "Compare", n, e, c.want, api.OK)
		n, e = Compare(c.b, c.a)
		same(t, "Compare", n, e, -c.want, api.OK)
	}
	for _, o := range good {
		if o.Kind == api.KInt || o.Kind == api.KReal {
			continue
		}
		n, e = Value(o)
		same(t, "Value", n, e, 0, api.TypeCheck)
		n, e = Compare(in(1), o)
		same(t, "Compare", n, e, 0, api.TypeCheck)
		n, e = Compare(o, in(1))
		same(t, "Compare", n, e, 0, api.TypeCheck)
		x, e := ToInt(o)
		same(t, "ToInt", x, e, api.Obj{}, api.TypeCheck)
		x, e = ToReal(o)
		same(t, "ToReal", x, e, api.Obj{}, api.TypeCheck)
	}
}

// P10.4
func TestConversions(t *testing.T) {
	exec := func(o api.Obj) api.Obj { o.Exec = true; return o }
	for _, c := range []struct {
		f       func(api.Obj) (api.Obj, api.Errno)
		o, want api.Obj
		e       api.Errno
	}{
		{ToInt, re(-180224), in(-2), 0}, {ToInt, exec(in(5)), in(5), 0}, {ToInt, re(1 << 31), in(32768), 0},
		{ToReal, in(7), re(7 << 16), 0}, {ToReal, in(32768), re(1 << 31), 0}, {ToReal, in(32769), api.Obj{}, api.UndefinedResult}, {ToReal, in(-32769), api.Obj{}, api.UndefinedResult}, {ToReal, exec(re(5)), re(5), 0},
		{Key, re(131072), in(2), 0}, {Key, re(163840), re(163840), 0}, {Key, exec(name("a")), name("a"), 0}, {Key, api.Obj{}, api.Obj{}, api.TypeCheck}, {Key, api.Obj{Kind: api.KString}, api.Obj{}, api.TypeCheck},
		{Key, exec(api.Obj{Kind: api.KArray, Ref: 1, Len: 2}), api.Obj{Kind: api.KArray, Ref: 1, Len: 2}, 0}, {Key, exec(in(-3)), in(-3), 0}, {Key, api.Obj{Kind: api.KMark}, api.Obj{Kind: api.KMark}, 0}, {Key, re(-65536), in(-1), 0},
	} {
		x, e := c.f(c.o)
		same(t, "conversion", x, e, c.want, c.e)
	}
}

// P10.5
func TestConsequences(t *testing.T) {
	r := rand.New(rand.NewSource(1))
	random := func() api.Obj {
		if r.Intn(2) == 0 {
			return in(r.Intn(9) - 4)
		}
		return re((r.Intn(17) - 8) << 15)
	}
	for range 2000 {
		a, b := random(), random()
		c, _ := Compare(a, b)
		x, _ := Key(a)
		y, _ := Key(b)
		if (x == y) != (c == 0) {
			t.Errorf("%v %v: keys %v %v, %d", a, b, x, y, c)
		}
		i, _ := ToInt(a)
		back, e := ToReal(i)
		v, _ := Value(a)
		if e != api.OK || max(back.N, -back.N) > max(v, -v) || Check(back) != api.OK || Check(i) != api.OK || Check(x) != api.OK {
			t.Errorf("%v as an int, and back: %v", a, back)
		}
	}
}
