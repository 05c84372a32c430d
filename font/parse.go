package font

import (
	"iter"
	"strconv"
	"strings"

	"chase/api"
	"chase/cipher"
)

// malformed is what a line is given up with.
type malformed struct{}

// demand gives up the text if a condition does not hold.
func demand(ok bool) {
	if !ok {
		panic(malformed{})
	}
}

// lines yields the lines of a text, each of which must be ended.
func lines(text string) iter.Seq[string] {
	return func(yield func(string) bool) {
		for text != "" {
			line, rest, ended := strings.Cut(text, "\n")
			demand(ended)
			if !yield(line) {
				return
			}
			text = rest
		}
	}
}

// after returns what follows the beginning of a line.
func after(line, begin string) string {
	rest, ok := strings.CutPrefix(line, begin)
	demand(ok)
	return rest
}

// octet reads a number from 0 to 255.
func octet(s string) int {
	n, err := strconv.Atoi(s)
	demand(err == nil && 0 <= n && n <= 255 && strconv.Itoa(n) == s)
	return n
}

// decrypted returns what the digits of an encrypted string denote.
func decrypted(s string, key int) string {
	demand(len(s)%2 == 0)
	var out []byte
	for i := 0; i < len(s); i += 2 {
		n, err := strconv.ParseUint(s[i:i+2], 16, 8)
		demand(err == nil)
		out = append(out, byte(n))
	}
	plain, e := cipher.Decrypt(string(out), key)
	demand(e == api.OK)
	return plain
}

// parser reads a font.
type parser struct {
	api.Font
	begun, ended bool
}

// public reads a line of the text.
func (p *parser) public(line string) {
	demand(!p.ended)
	if !p.begun {
		p.Name, p.begun = after(line, lineFont), true
		return
	}
	if rest, ok := strings.CutPrefix(line, lineCode); ok {
		number, name, _ := strings.Cut(rest, " ")
		p.Encoding = append(p.Encoding, api.Code{Octet: octet(number), Name: name})
		return
	}
	for secret := range lines(decrypted(after(line, linePrivate), api.KeyFont)) {
		p.private(secret)
	}
	p.ended = true
}

// private reads a line of the private part. Subroutines come ahead of all characters.
func (p *parser) private(line string) {
	if rest, ok := strings.CutPrefix(line, lineSubr); ok && len(p.Chars) == 0 {
		p.Subrs = append(p.Subrs, decrypted(rest, api.KeyGlyph))
		return
	}
	name, code, _ := strings.Cut(after(line, lineChar), " ")
	p.Chars = append(p.Chars, api.Char{Name: name, Code: decrypted(code, api.KeyGlyph)})
}

// Parse returns the font of a text.
func Parse(text string) (f api.Font, e api.Errno) {
	if len(text) > api.MaxFontText {
		return api.Font{}, api.ErrLong
	}
	defer func() {
		if recover() != nil {
			f, e = api.Font{}, api.ErrForm
		}
	}()
	p := &parser{}
	for line := range lines(text) {
		p.public(line)
	}
	demand(p.ended && Check(p.Font) == api.OK)
	return p.Font, api.OK
}
