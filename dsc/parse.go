package dsc

import (
	"strconv"
	"strings"

	"chase/api"
)

// malformed is what a line leaves the parser with.
type malformed struct{}

// demand leaves the parser if a condition does not hold.
func demand(ok bool) {
	if !ok {
		panic(malformed{})
	}
}

// The sections of a document, and what comes between them.
const (
	atFirst = iota
	inHeader
	inProlog
	afterProlog
	inSetup
	afterSetup
	inLeaf
	inTrailer
	atEnd
)

// parser reads a document line by line.
type parser struct {
	api.Doc
	nesting
	section int
	part    strings.Builder // what has been read of the part in work
}

// meanings has what a line means, by the sections.
func meanings() map[int]func(*parser, string) {
	return map[int]func(*parser, string){
		atFirst:     (*parser).first,
		inHeader:    (*parser).header,
		inProlog:    (*parser).prolog,
		afterProlog: (*parser).behindProlog,
		inSetup:     (*parser).setup,
		afterSetup:  (*parser).behindSetup,
		inLeaf:      (*parser).leaf,
		inTrailer:   (*parser).trailer,
		atEnd:       (*parser).end,
	}
}

// Parse returns the document of a text, or the index of the first line with which no such text can go on.
func Parse(text string) (d api.Doc, line int, e api.Errno) {
	if len(text) > maxText {
		return api.Doc{}, 0, api.ErrLong
	}
	defer func() {
		if recover() != nil {
			d, e = api.Doc{}, api.ErrForm
		}
	}()
	p, known := &parser{}, meanings()
	for s, ended := range lines(text) {
		demand(ended)
		known[p.section](p, s)
		line++
	}
	demand(p.section == atEnd)
	if p.HasCount && p.Count != len(p.Leaves) {
		return api.Doc{}, line, api.ErrCount
	}
	return p.Doc, 0, api.OK
}

// number reads a number in a range.
func number(s string, least, most int) int {
	n, err := strconv.Atoi(s)
	demand(err == nil && strconv.Itoa(n) == s && between(n, least, most))
	return n
}

func (p *parser) first(line string) {
	demand(line == lineFirst)
	p.section = inHeader
}

func (p *parser) header(line string) {
	if line == lineEndComments {
		p.section = inProlog
		return
	}
	word, rest, _ := strings.Cut(line, " ")
	switch word {
	case wordTitle:
		demand(p.Title == "" && rest != "" && validTitle(rest))
		p.Title = rest
	case wordPages:
		demand(!p.HasCount)
		p.HasCount, p.Count = true, number(rest, 0, api.MaxPages)
	case wordBox:
		words := strings.Split(rest, " ")
		demand(!p.HasBox && len(words) == len(p.Box))
		p.HasBox = true
		for i, w := range words {
			p.Box[i] = number(w, -maxCorner, maxCorner)
		}
	default:
		demand(false)
	}
}

// content takes a line of a part; it reports whether the line ends it.
func (p *parser) content(line string) bool {
	what := p.take(line)
	demand(what != misplaced)
	if what == within {
		p.part.WriteString(line + "\n")
	}
	return what == ending
}

// finish returns the part that has ended.
func (p *parser) finish() string {
	s := p.part.String()
	p.part.Reset()
	return s
}

func (p *parser) prolog(line string) {
	if p.content(line) {
		demand(line == lineEndProlog)
		p.Prolog, p.section = p.finish(), afterProlog
	}
}

func (p *parser) behindProlog(line string) {
	if line == lineBeginSetup {
		p.HasSetup, p.section = true, inSetup
		return
	}
	p.behindSetup(line)
}

func (p *parser) setup(line string) {
	if p.content(line) {
		demand(line == lineEndSetup)
		p.Setup, p.section = p.finish(), afterSetup
	}
}

// behindSetup reads the line of a page, or that of the trailer.
func (p *parser) behindSetup(line string) {
	if line == lineTrailer {
		p.section = inTrailer
		return
	}
	rest, ok := strings.CutPrefix(line, wordPage+" ")
	label, place, _ := strings.Cut(rest, " ")
	demand(ok && validLabel(label) && len(p.Leaves) < api.MaxPages)
	number(place, len(p.Leaves)+1, len(p.Leaves)+1)
	p.Leaves = append(p.Leaves, api.Leaf{Label: label})
	p.section = inLeaf
}

func (p *parser) leaf(line string) {
	if p.content(line) {
		p.Leaves[len(p.Leaves)-1].Body = p.finish()
		p.behindSetup(line)
	}
}

func (p *parser) trailer(line string) {
	if p.content(line) {
		demand(line == lineEnd)
		p.Trailer, p.section = p.finish(), atEnd
	}
}

func (p *parser) end(string) { demand(false) }
