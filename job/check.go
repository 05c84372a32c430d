package job

import (
	"chase/api"
	"chase/heap"
	"chase/line"
	"chase/matrix"
	"chase/path"
	"chase/raster"
	"chase/tile"
)

// broken is what a check is ended with.
type broken struct{}

// demand ends the check if a condition does not hold.
func demand(ok bool) {
	if !ok {
		panic(broken{})
	}
}

func between(n, least, most int) bool { return least <= n && n <= most }

// inspection is a state that is checked.
type inspection struct {
	api.State
}

// Check returns ErrState for an invalid state.
func Check(s api.State) (e api.Errno) {
	defer func() {
		if recover() != nil {
			e = api.ErrState
		}
	}()
	conditions := [...]func(inspection){
		inspection.heap, inspection.operands, inspection.dictionaries, inspection.saves,
		inspection.graphics, inspection.pages, inspection.rest,
	}
	for _, check := range conditions {
		check(inspection{s})
	}
	return api.OK
}

// validHeap demands a valid heap that begins with dictionaries.
func validHeap(h []api.Cell) {
	demand(heap.Check(h) == api.OK && len(h) >= api.FirstRefs)
	for _, c := range h[:api.FirstRefs] {
		demand(c.Kind == api.CDict)
	}
}

func (s inspection) heap() { validHeap(s.Heap) }

func (s inspection) operands() {
	demand(len(s.Ops) <= api.MaxOps)
	for _, o := range s.Ops {
		demand(heap.Fits(s.Heap, o))
	}
}

func (s inspection) dictionaries() {
	demand(between(len(s.Dicts), 2, api.MaxDicts))
	for _, o := range s.Dicts {
		demand(o.Kind == api.KDict && heap.Fits(s.Heap, o))
	}
	demand(s.Dicts[0].Ref == api.RefSystem && s.Dicts[1].Ref == api.RefUser)
}

// alike demands that a cell may have been another one before.
func alike(c, before api.Cell) {
	demand(c.Kind == before.Kind && len(c.Bytes) == len(before.Bytes) && len(c.Items) == len(before.Items))
	demand(c.Kind != api.CDict || c.Max == before.Max)
}

func (s inspection) saves() {
	demand(len(s.Saves) <= api.MaxSaves && s.Made >= 0)
	number, states := 0, -1
	for _, snap := range s.Saves {
		demand(snap.N > number && snap.States > states)
		number, states = snap.N, snap.States
		demand(heap.Check(snap.Heap) == api.OK && between(len(snap.Heap), api.FirstRefs, len(s.Heap)))
		for i, c := range snap.Heap {
			alike(s.Heap[i], c)
		}
	}
	demand(s.Made >= number && len(s.States) > states)
}

func (s inspection) graphics() {
	demand(len(s.States) <= api.MaxStates)
	validGraphics(s.G, s.Heap)
	for i, g := range s.States {
		validGraphics(g, s.Heap)
		for _, snap := range s.Saves {
			if i <= snap.States {
				validFont(g.Font, snap.Heap)
			}
		}
	}
}

func validFont(o api.Obj, h []api.Cell) {
	demand(o == api.Obj{} || o.Kind == api.KDict && heap.Fits(h, o))
}

// validGraphics demands a graphics state that is valid in a heap.
func validGraphics(g api.Graphics, h []api.Cell) {
	demand(between(g.W, 1, api.MaxSide) && between(g.H, 1, api.MaxSide))
	demand(matrix.Check(g.CTM) == api.OK && matrix.Check(g.FontM) == api.OK)
	demand(path.Check(g.Path) == api.OK)
	if low, high, e := path.Box(g.Path); e == api.OK {
		for _, n := range [...]int{low.X, low.Y, high.X, high.Y} {
			demand(between(n, -api.MaxCoord, api.MaxCoord))
		}
	}
	demand(tile.Check(g.Paint) == api.OK && line.Check(g.Pen) == api.OK)
	demand(between(g.Flat, 1, api.MaxTolerance) && len(g.Clips) < api.MaxClips)
	for _, c := range g.Clips {
		flat, e := path.Flat(c.Path)
		demand(flat && e == api.OK)
	}
	validFont(g.Font, h)
}

func (s inspection) pages() {
	demand(len(s.Marks) <= api.MaxMarks && len(s.Pages) <= api.MaxPages)
	for _, m := range s.Marks {
		demand(raster.CheckMark(m) == api.OK)
	}
	for _, p := range s.Pages {
		demand(raster.CheckPage(p) == api.OK)
		demand(p.W <= api.MaxSide && p.H <= api.MaxSide && len(p.Marks) <= api.MaxMarks)
	}
}

func (s inspection) rest() {
	demand(len(s.Out) <= api.MaxOut && between(s.Seed, 1, api.MaxSeed))
}
