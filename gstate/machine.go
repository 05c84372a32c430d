package gstate

import (
	"chase/api"
	"chase/heap"
	"chase/matrix"
	"chase/object"
	"chase/path"
	"chase/stack"
)

// machine is a state that an operator changes.
type machine struct {
	api.State
}

// failure is the error with which an operator is left.
type failure api.Errno

// check leaves the operator if there is an error.
func check(e api.Errno) {
	if e != api.OK {
		panic(failure(e))
	}
}

// demand leaves the operator with an error if a condition does not hold.
func demand(ok bool, e api.Errno) {
	if !ok {
		check(e)
	}
}

// kinds is a set of kinds, a bit for each.
type kinds int

const (
	ints    kinds = 1 << api.KInt
	numbers kinds = ints | 1<<api.KReal
	texts   kinds = 1 << api.KString
	arrays  kinds = 1<<api.KArray | 1<<api.KPacked
)

func (k kinds) have(o api.Obj) bool {
	return 0 <= o.Kind && o.Kind < api.Kinds && k>>o.Kind&1 == 1
}

// take removes and returns the highest operands, one of each of the sets of kinds.
func (m *machine) take(sets ...kinds) []api.Obj {
	l, e := stack.Top(m.State, len(sets))
	check(e)
	for i, o := range l {
		demand(sets[i].have(o), api.TypeCheck)
	}
	m.State, e = stack.Drop(m.State, len(sets))
	check(e)
	return l
}

// value returns the value of a number.
func value(o api.Obj) int {
	n, e := object.Value(o)
	check(e)
	demand(-api.MaxReal <= n && n <= api.MaxReal, api.RangeCheck)
	return n
}

// values returns the values of numbers, in order.
func values(l []api.Obj) []int {
	var out []int
	for _, o := range l {
		out = append(out, value(o))
	}
	return out
}

// numbers removes the n highest operands, numbers, and returns their values.
func (m *machine) numbers(n int) []int {
	sets := make([]kinds, n)
	for i := range sets {
		sets[i] = numbers
	}
	return values(m.take(sets...))
}

// within returns the N of an int, which must be from least to most.
func within(o api.Obj, least, most int) int {
	demand(least <= o.N && o.N <= most, api.RangeCheck)
	return o.N
}

// items returns the elements of an array.
func (m *machine) items(o api.Obj) []api.Obj {
	l, e := heap.Items(m.Heap, o)
	check(e)
	return l
}

// element returns the value of an element of an array, which must be a number.
func element(o api.Obj) int {
	demand(numbers.have(o), api.TypeCheck)
	return value(o)
}

// list returns the values of a list of n numbers.
func (m *machine) list(o api.Obj, n int) []int {
	l := m.items(o)
	demand(len(l) == n, api.RangeCheck)
	out := make([]int, n)
	for i, x := range l {
		out[i] = element(x)
	}
	return out
}

// matrix returns the matrix that an array contains.
func (m *machine) matrix(o api.Obj) api.Matrix {
	l := m.list(o, 6)
	x := api.Matrix{A: l[0], B: l[1], C: l[2], D: l[3], E: l[4], F: l[5]}
	demand(matrix.Check(x) == api.OK, api.RangeCheck)
	return x
}

// reals pushes numbers as reals.
func (m *machine) reals(l ...int) {
	for _, n := range l {
		m.push(api.Obj{Kind: api.KReal, N: n})
	}
}

func (m *machine) push(o api.Obj) {
	var e api.Errno
	m.State, e = stack.Push(m.State, o)
	check(e)
}

// root returns the greatest number whose square is at most n.
func root(n int) int {
	r := 0
	for bit := 1 << 31; bit > 0; bit >>= 1 {
		if next := r | bit; next*next <= n {
			r = next
		}
	}
	return r
}

func (m *machine) determinant() int {
	return m.G.CTM.A*m.G.CTM.D - m.G.CTM.B*m.G.CTM.C
}

// length returns the device length of a number that is not negative.
func (m *machine) length(n int) int {
	d := m.determinant()
	return n * root(max(d, -d)) >> 28
}

// point returns the point of device space of (x, y).
func (m *machine) point(x, y int) api.Point {
	p, e := matrix.Apply(m.G.CTM, x, y)
	check(e)
	return p
}

// beyond returns the sum of a point and the vector of (x, y).
func (m *machine) beyond(p api.Point, x, y int) api.Point {
	v, e := matrix.Vector(m.G.CTM, x, y)
	check(e)
	q := api.Point{X: p.X + v.X, Y: p.Y + v.Y}
	demand(reachable(q.X) && reachable(q.Y), api.LimitCheck)
	return q
}

func reachable(n int) bool {
	return -api.MaxCoord <= n && n <= api.MaxCoord
}

// current returns the current point.
func (m *machine) current() api.Point {
	p, e := path.Current(m.G.Path)
	check(e)
	return p
}
