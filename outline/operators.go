package outline

import "chase/api"

// Codes of operators that Build writes.
const (
	codeHstem     = 1
	codeVstem     = 3
	codeRlineto   = 5
	codeRrcurveto = 8
	codeClosepath = 9
	codeHsbw      = 13
	codeEndchar   = 14
	codeRmoveto   = 21
)

// When operators may be used: path operators with an exact number of operands, others at any time.
const (
	drawing = iota
	moving  // also while flex is active
	first   // before all others
	anytime
)

// operator is what an operator does, with its operands.
type operator struct {
	use      int
	operands int
	do       func(*machine, []int) api.Errno
}

// operators has the operators by their codes.
func operators() map[int]operator {
	return map[int]operator{
		codeHstem:     {drawing, 2, (*machine).hstem},
		codeVstem:     {drawing, 2, (*machine).vstem},
		4:             {moving, 1, (*machine).vmoveto},
		codeRlineto:   {drawing, 2, (*machine).rlineto},
		6:             {drawing, 1, (*machine).hlineto},
		7:             {drawing, 1, (*machine).vlineto},
		codeRrcurveto: {drawing, 6, (*machine).rrcurveto},
		codeClosepath: {drawing, 0, (*machine).closepath},
		10:            {anytime, 0, (*machine).callsubr},
		11:            {anytime, 0, (*machine).endsubr},
		codeHsbw:      {first, 2, (*machine).hsbw},
		codeEndchar:   {drawing, 0, (*machine).endchar},
		codeRmoveto:   {moving, 2, (*machine).rmoveto},
		22:            {moving, 1, (*machine).hmoveto},
		30:            {drawing, 4, (*machine).vhcurveto},
		31:            {drawing, 4, (*machine).hvcurveto},

		escape<<8 | 0:  {drawing, 0, (*machine).dotsection},
		escape<<8 | 1:  {drawing, 6, (*machine).vstem},
		escape<<8 | 2:  {drawing, 6, (*machine).hstem},
		escape<<8 | 12: {anytime, 0, (*machine).div},
		escape<<8 | 16: {anytime, 0, (*machine).callothersubr},
		escape<<8 | 17: {anytime, 0, (*machine).pop},
		escape<<8 | 33: {drawing, 2, (*machine).setcurrentpoint},
	}
}

func (m *machine) hstem(l []int) api.Errno { return m.stems(false, 0, l) }
func (m *machine) vstem(l []int) api.Errno { return m.stems(true, m.Side, l) }

func (m *machine) vmoveto(l []int) api.Errno { return m.move(0, l[0]) }
func (m *machine) rmoveto(l []int) api.Errno { return m.move(l[0], l[1]) }
func (m *machine) hmoveto(l []int) api.Errno { return m.move(l[0], 0) }

func (m *machine) rlineto(l []int) api.Errno { return m.draw(api.Line, l...) }
func (m *machine) hlineto(l []int) api.Errno { return m.draw(api.Line, l[0], 0) }
func (m *machine) vlineto(l []int) api.Errno { return m.draw(api.Line, 0, l[0]) }

func (m *machine) rrcurveto(l []int) api.Errno { return m.draw(api.Curve, l...) }
func (m *machine) vhcurveto(l []int) api.Errno {
	return m.draw(api.Curve, 0, l[0], l[1], l[2], l[3], 0)
}
func (m *machine) hvcurveto(l []int) api.Errno {
	return m.draw(api.Curve, l[0], 0, l[1], l[2], 0, l[3])
}

func (m *machine) closepath([]int) api.Errno {
	e := m.draw(api.Close)
	m.open = false
	return e
}

func (m *machine) hsbw(l []int) api.Errno {
	if !within(api.MaxUnit, l...) {
		return api.LimitCheck
	}
	m.Side, m.Width, m.at, m.begun = l[0], l[1], api.Point{X: l[0]}, true
	return api.OK
}

func (m *machine) endchar([]int) api.Errno {
	m.ended = true
	return api.OK
}

func (m *machine) dotsection([]int) api.Errno { return api.OK }

func (m *machine) setcurrentpoint(l []int) api.Errno {
	if m.at != (api.Point{X: l[0], Y: l[1]}) {
		return api.InvalidFont
	}
	return api.OK
}

func (m *machine) callsubr([]int) api.Errno {
	l, ok := m.take(1)
	if !ok || l[0] < 0 || l[0] >= len(m.subrs) {
		return api.InvalidFont
	}
	if len(m.texts) > api.MaxDeep {
		return api.LimitCheck
	}
	m.texts = append(m.texts, input{text: m.subrs[l[0]]})
	return api.OK
}

func (m *machine) endsubr([]int) api.Errno {
	last := len(m.texts) - 1
	if last == 0 {
		return api.InvalidFont
	}
	m.texts = m.texts[:last]
	return api.OK
}

func (m *machine) div([]int) api.Errno {
	l, ok := m.take(2)
	if !ok || l[1] == 0 {
		return api.InvalidFont
	}
	q := l[0] / l[1]
	if l[0]%l[1] != 0 && (l[0] < 0) != (l[1] < 0) {
		q--
	}
	return m.push(q)
}

func (m *machine) pop([]int) api.Errno {
	if len(m.results) == 0 {
		return api.InvalidFont
	}
	n := m.results[0]
	m.results = m.results[1:]
	return m.push(n)
}

func (m *machine) callothersubr([]int) api.Errno {
	l, ok := m.take(2)
	if !ok {
		return api.InvalidFont
	}
	n, k := l[0], l[1]
	l, ok = m.take(n)
	if !ok {
		return api.InvalidFont
	}
	m.results = nil
	switch k {
	case 0:
		return m.endFlex(l)
	case 1:
		return m.beginFlex(l)
	case 2:
		return m.passFlex(l)
	case 3:
		if n != 1 {
			return api.InvalidFont
		}
		m.results = []int{3}
		return api.OK
	}
	for i := len(l) - 1; i >= 0; i-- {
		m.results = append(m.results, l[i])
	}
	return api.OK
}

// flexPoints is how many points flex has.
const flexPoints = 7

func (m *machine) beginFlex(l []int) api.Errno {
	if len(l) != 0 || !m.begun || !m.open || m.flex {
		return api.InvalidFont
	}
	m.flex, m.points = true, nil
	return api.OK
}

func (m *machine) passFlex(l []int) api.Errno {
	if len(l) != 0 || !m.flex || len(m.points) >= flexPoints {
		return api.InvalidFont
	}
	m.points = append(m.points, m.at)
	return api.OK
}

func (m *machine) endFlex(l []int) api.Errno {
	if len(l) != 3 || !m.flex || len(m.points) != flexPoints {
		return api.InvalidFont
	}
	m.results = []int{l[1], l[2]}
	p := m.points
	for i := 1; i < flexPoints; i += 3 {
		if e := m.add(api.Step{Kind: api.Curve, P: [3]api.Point{p[i], p[i+1], p[i+2]}}); e != api.OK {
			return e
		}
	}
	m.at, m.flex = p[flexPoints-1], false
	return api.OK
}
