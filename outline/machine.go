package outline

import "chase/api"

// input is a string that is executed.
type input struct {
	text string
	at   int
}

func (in *input) octet() (int, bool) {
	if in.at >= len(in.text) {
		return 0, false
	}
	in.at++
	return int(in.text[in.at-1]), true
}

// octets reads n octets as a number, the most significant one first.
func (in *input) octets(n int) (int, bool) {
	value := 0
	for range n {
		c, ok := in.octet()
		if !ok {
			return 0, false
		}
		value = value<<8 | c
	}
	return value, true
}

// escape is the first octet of an operator that has two.
const escape = 12

// next reads a number, or the code of an operator; ok is false if it is cut off.
func (in *input) next() (value int, number, ok bool) {
	v, ok := in.octet()
	if !ok {
		return 0, false, false
	}
	switch {
	case v == escape:
		c, ok := in.octet()
		return escape<<8 | c, false, ok
	case v < 32:
		return v, false, true
	case v <= 246:
		return v - 139, true, true
	case v <= 250:
		w, ok := in.octet()
		return 256*(v-247) + w + 108, true, ok
	case v <= 254:
		w, ok := in.octet()
		return -256*(v-251) - w - 108, true, ok
	}
	n, ok := in.octets(4)
	return int(int32(n)), true, ok
}

// machine executes charstrings, and has what they have drawn.
type machine struct {
	api.Glyph
	subrs    []string
	texts    []input // under execution: the charstring, and subroutines
	stack    []int
	results  []int
	at       api.Point
	begun    bool
	open     bool
	ended    bool
	flex     bool
	points   []api.Point // of flex
	executed int
}

func (m *machine) run() api.Errno {
	known, e := operators(), api.OK
execution:
	for !m.ended {
		value, number, ok := m.texts[len(m.texts)-1].next()
		op, listed := known[value]
		switch {
		case !ok || !number && !listed:
			e = api.InvalidFont
		case number:
			e = m.push(value)
		default:
			e = m.execute(op)
		}
		if e != api.OK {
			break execution
		}
	}
	return e
}

func (m *machine) push(n int) api.Errno {
	if len(m.stack) >= api.MaxStack {
		return api.LimitCheck
	}
	m.stack = append(m.stack, n)
	return api.OK
}

// take removes and returns the n upper numbers.
func (m *machine) take(n int) ([]int, bool) {
	left := len(m.stack) - n
	if n < 0 || left < 0 {
		return nil, false
	}
	l := append([]int{}, m.stack[left:]...)
	m.stack = m.stack[:left]
	return l, true
}

// execute executes an operator. Path operators empty the stack; others take what they need.
func (m *machine) execute(op operator) api.Errno {
	m.executed++
	if m.executed > api.MaxCode {
		return api.LimitCheck
	}
	if op.use == anytime {
		return op.do(m, nil)
	}
	if len(m.stack) != op.operands || m.begun == (op.use == first) || m.flex && op.use != moving {
		return api.InvalidFont
	}
	l, _ := m.take(op.operands)
	return op.do(m, l)
}

// moved returns a point that is moved.
func moved(p api.Point, x, y int) api.Point {
	return api.Point{X: p.X + x, Y: p.Y + y}
}

// move moves the current point.
func (m *machine) move(x, y int) api.Errno {
	to := moved(m.at, x, y)
	if !within(api.MaxUnit, to.X, to.Y) {
		return api.LimitCheck
	}
	m.at = to
	if m.flex {
		return api.OK
	}
	if n := len(m.Steps); n > 0 && m.Steps[n-1].Kind == api.Move {
		m.Steps = m.Steps[:n-1]
	}
	m.open = true
	return m.add(api.Step{Kind: api.Move, P: [3]api.Point{to}})
}

func (m *machine) add(s api.Step) api.Errno {
	if len(m.Steps) >= api.MaxSteps {
		return api.LimitCheck
	}
	m.Steps = append(m.Steps, s)
	return api.OK
}

// draw adds a step with points that are each relative to the one before.
func (m *machine) draw(kind int, differences ...int) api.Errno {
	if !m.open {
		return api.InvalidFont
	}
	s := api.Step{Kind: kind}
	for i := 0; i+1 < len(differences); i += 2 {
		m.at = moved(m.at, differences[i], differences[i+1])
		if !within(api.MaxUnit, m.at.X, m.at.Y) {
			return api.LimitCheck
		}
		s.P[i/2] = m.at
	}
	return m.add(s)
}

// stems adds stems with their edges and widths, from a beginning on.
func (m *machine) stems(vertical bool, from int, l []int) api.Errno {
	for i := 1; i < len(l); i += 2 {
		if l[i] == 0 {
			return api.InvalidFont
		}
	}
	for i := 0; i+1 < len(l); i += 2 {
		a, b := from+l[i], from+l[i]+l[i+1]
		s := api.Stem{Vertical: vertical, At: min(a, b), Long: max(a, b) - min(a, b)}
		if !validStem(s) || len(m.Stems) >= api.MaxStems {
			return api.LimitCheck
		}
		m.Stems = append(m.Stems, s)
	}
	return api.OK
}
