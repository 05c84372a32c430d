package fault

import (
	"slices"

	"chase/api"
	"chase/heap"
	"chase/logic"
	"chase/stack"
)

// The keys of $error.
const (
	keyNew     = "newerror"
	keyName    = "errorname"
	keyCommand = "command"
	keyStack   = "ostack"
)

// clerk is a state in which errors are recorded and reported.
type clerk struct {
	api.State
}

// pair is a key of $error with its value.
type pair struct {
	key string
	val api.Obj
}

// put stores a pair in $error.
func (c *clerk) put(p pair) api.Errno {
	h, e := heap.Store(c.Heap, lastError(), literal(p.key), p.val)
	if e == api.OK {
		c.Heap = h
	}
	return e
}

// storing returns what stores pairs, as far as there is room for them.
func storing(put func(pair) api.Errno) func(l ...pair) api.Errno {
	return func(l ...pair) api.Errno {
		e := api.OK
	pairs:
		for _, p := range l {
			e = put(p)
			if e != api.OK && e != api.DictFull {
				break pairs
			}
			e = api.OK
		}
		return e
	}
}

// operands returns a new array of all operands, or null if there is no room for it.
func (c *clerk) operands() api.Obj {
	l := slices.Clone(c.Ops)
	h, ref, e := heap.New(c.Heap, api.Cell{Kind: api.CArray, Items: l})
	if e != api.OK {
		return api.Obj{}
	}
	c.Heap = h
	return api.Obj{Kind: api.KArray, Ref: ref, Len: len(l)}
}

func (c clerk) record() (api.State, api.Errno) {
	l, e := stack.Top(c.State, 2)
	if e != api.OK {
		return c.State, e
	}
	if l[1].Kind != api.KName {
		return c.State, api.TypeCheck
	}
	if c.State, e = stack.Drop(c.State, 2); e != api.OK {
		return c.State, e
	}
	all := c.operands()
	store := storing(c.put)
	e = store(
		pair{keyNew, api.Obj{Kind: api.KBool, N: 1}},
		pair{keyName, literal(l[1].Name)},
		pair{keyCommand, l[0]},
		pair{keyStack, all},
	)
	return c.State, e
}

// find returns the value of a key in $error.
func (c clerk) find(key string) (api.Obj, bool) {
	o, ok, _ := heap.Find(c.Heap, lastError(), literal(key))
	return o, ok
}

// text returns the text of the value of a key in $error.
func (c clerk) text(key string) string {
	o, ok := c.find(key)
	if !ok {
		return ""
	}
	return logic.Text(c.Heap, o)
}

func (c clerk) handleerror() (api.State, api.Errno) {
	if o, _ := c.find(keyNew); o.Kind != api.KBool || o.N != 1 {
		return c.State, api.OK
	}
	out := c.Out + "%%[ Error: " + c.text(keyName) + "; OffendingCommand: " + c.text(keyCommand) + " ]%%\n"
	if len(out) > api.MaxOut {
		return c.State, api.LimitCheck
	}
	c.Out = out
	e := c.put(pair{keyNew, api.Obj{Kind: api.KBool}})
	return c.State, e
}
