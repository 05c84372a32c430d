package object

import (
	"math"

	"chase/api"
)

// interval has the numbers from least to most.
type interval struct {
	least, most int
}

func (i interval) has(n int) bool { return i.least <= n && n <= i.most }

// kind says what the fields of an object may be. Those with a zero interval are not used.
type kind struct {
	name   string
	n      interval
	text   interval // octets of Name
	ref    interval
	extent int // of Off + Len
}

// kinds has the kinds in their order.
var kinds = [api.Kinds]kind{
	{name: "nulltype"},
	{name: "marktype"},
	{name: "booleantype", n: interval{0, 1}},
	{name: "integertype", n: interval{api.MinInt, api.MaxInt}},
	{name: "realtype", n: interval{-api.MaxReal, api.MaxReal}},
	{name: "nametype", text: interval{0, api.MaxName}},
	{name: "stringtype", ref: interval{0, api.MaxHeap}, extent: api.MaxString},
	{name: "arraytype", ref: interval{0, api.MaxHeap}, extent: api.MaxArray},
	{name: "packedarraytype", ref: interval{0, api.MaxHeap}, extent: api.MaxArray},
	{name: "dicttype", ref: interval{0, api.MaxHeap}},
	{name: "operatortype", text: interval{1, api.MaxName}},
	{name: "filetype", ref: interval{0, api.MaxHeap}},
	{name: "savetype", n: interval{1, math.MaxInt}},
}

// subject is an object that is held against its kind.
type subject struct {
	api.Obj
	kind
}

func (s subject) numberFits() bool { return s.n.has(s.N) }

func (s subject) nameFits() bool { return s.text.has(len(s.Name)) }

func (s subject) referenceFits() bool { return s.ref.has(s.Ref) }

func (s subject) extentFits() bool {
	// Most kinds have no interval, and then no need to look at its ends.
	if (interval{s.Off, s.Len}) == (interval{}) {
		return true
	}
	return s.Off >= 0 && s.Len >= 0 && s.Off <= s.extent && s.Len <= s.extent-s.Off
}

func valid(o api.Obj) bool {
	if o.Kind < 0 || o.Kind >= api.Kinds {
		return false
	}
	s := subject{o, kinds[o.Kind]}
	ok := true
conditions:
	for _, fits := range [...]func(subject) bool{subject.numberFits, subject.nameFits, subject.referenceFits, subject.extentFits} {
		if !fits(s) {
			ok = false
			break conditions
		}
	}
	return ok
}
