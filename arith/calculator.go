package arith

import (
	"chase/api"
	"chase/object"
	"chase/real"
	"chase/stack"
)

// calculator computes with the operands of a state.
type calculator struct {
	api.State
}

// operands returns the n highest operands as literal objects, which must be of the kinds.
func (c calculator) operands(n int, kinds ...int) ([]api.Obj, api.Errno) {
	l, e := stack.Top(c.State, n)
	if e != api.OK {
		return nil, e
	}
	var out []api.Obj
kinds:
	for _, o := range l {
		for _, k := range kinds {
			if o.Kind == k {
				o.Exec = false
				out = append(out, o)
				continue kinds
			}
		}
		return nil, api.TypeCheck
	}
	return out, api.OK
}

// number returns the top operand, a number.
func (c calculator) number() (api.Obj, api.Errno) {
	l, e := c.operands(1, api.KInt, api.KReal)
	if e != api.OK {
		return api.Obj{}, e
	}
	return l[0], api.OK
}

// replace returns how the n highest operands are replaced by a result.
func (c calculator) replace(n int) func(api.Obj, api.Errno) (api.State, api.Errno) {
	return func(result api.Obj, e api.Errno) (api.State, api.Errno) {
		if e != api.OK {
			return c.State, e
		}
		s, e := stack.Drop(c.State, n)
		if e != api.OK {
			return s, e
		}
		return stack.Push(s, result)
	}
}

// result is a number of a kind, as far as there is such a one.
func result(kind, n int) (api.Obj, api.Errno) {
	o := api.Obj{Kind: kind, N: n}
	if object.Check(o) != api.OK {
		return api.Obj{}, api.UndefinedResult
	}
	return o, api.OK
}

// numbers applies f to two ints, and g to other numbers, as reals.
func (c calculator) numbers(f func(a, b int) int, g func(a, b int) (int, api.Errno)) (api.State, api.Errno) {
	l, e := c.operands(2, api.KInt, api.KReal)
	if e != api.OK {
		return c.State, e
	}
	if l[0].Kind == api.KInt && l[1].Kind == api.KInt {
		return c.replace(2)(result(api.KInt, f(l[0].N, l[1].N)))
	}
	return c.reals(g)
}

// reals applies f to two numbers as reals.
func (c calculator) reals(f func(a, b int) (int, api.Errno)) (api.State, api.Errno) {
	l, e := c.operands(2, api.KInt, api.KReal)
	if e != api.OK {
		return c.State, e
	}
	var values [2]int
conversion:
	for i, o := range l {
		o, e = object.ToReal(o)
		if e != api.OK {
			break conversion
		}
		values[i] = o.N
	}
	if e != api.OK {
		return c.State, e
	}
	n, e := f(values[0], values[1])
	return c.replace(2)(api.Obj{Kind: api.KReal, N: n}, e)
}

// quotient applies f to two ints, of which the second one is not 0.
func (c calculator) quotient(f func(a, b int) int) (api.State, api.Errno) {
	l, e := c.operands(2, api.KInt)
	if e != api.OK {
		return c.State, e
	}
	if l[1] == (api.Obj{Kind: api.KInt}) {
		return c.State, api.UndefinedResult
	}
	return c.replace(2)(result(api.KInt, f(l[0].N, l[1].N)))
}

// sign applies f to the N of a number.
func (c calculator) sign(f func(n int) int) (api.State, api.Errno) {
	o, e := c.number()
	if e != api.OK {
		return c.State, e
	}
	return c.replace(1)(result(o.Kind, f(o.N)))
}

// rounded applies a rounding to a number that is taken. Ints stay as they are.
func rounded[T ~int](take func() (api.Obj, api.Errno), rounding func(T) (T, api.Errno)) (api.Obj, api.Errno) {
	o, e := take()
	if e != api.OK || o.Kind == api.KInt {
		return o, e
	}
	n, e := rounding(T(o.N))
	if e != api.OK {
		return api.Obj{}, e
	}
	return api.Obj{Kind: api.KReal, N: int(n)}, api.OK
}

func (c calculator) sqrt() (api.State, api.Errno) {
	o, e := c.number()
	if e != api.OK {
		return c.State, e
	}
	if o.N < 0 {
		return c.State, api.RangeCheck
	}
	o, e = object.ToReal(o)
	if e != api.OK {
		return c.State, e
	}
	o.N, e = real.Sqrt(o.N)
	return c.replace(1)(o, e)
}

func (c calculator) rand() (api.State, api.Errno) {
	seed := c.Seed
	if seed < 1 || seed > api.MaxSeed {
		seed = 1
	}
	c.Seed = seed * 16807 % (api.MaxSeed + 1)
	return stack.Push(c.State, api.Obj{Kind: api.KInt, N: c.Seed})
}

func (c calculator) srand() (api.State, api.Errno) {
	l, e := c.operands(1, api.KInt)
	if e != api.OK {
		return c.State, e
	}
	c.Seed = (l[0].N%api.MaxSeed+api.MaxSeed)%api.MaxSeed + 1
	return stack.Drop(c.State, 1)
}
