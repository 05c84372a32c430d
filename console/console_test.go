package console

import (
	"strconv"
	"strings"
	"testing"

	"chase/api"
	"chase/dsc"
	"chase/impose"
	"chase/job"
	"chase/raster"
)

// document is D of the chapter's examples, with another body.
func document(body ...string) string {
	s := "%!chase 1\n%%EndComments\n%%EndProlog\n"
	for i, b := range body {
		s += "%%Page: a " + strconv.Itoa(i+1) + "\n" + b + "\n"
	}
	return s + "%%Trailer\n%%EOF\n"
}

const square = "0 0 moveto 2 0 rlineto 0 2 rlineto -2 0 rlineto fill showpage"

var dots = strings.Repeat(".", 64) + "\n"

// P45.1
func TestDraw(t *testing.T) {
	box := func(x, y, k int) api.Mark {
		p := api.Path{{Kind: api.Move}, {Kind: api.Line}, {Kind: api.Line}, {Kind: api.Line}}
		for i, c := range [][2]int{{x, y}, {x + 1, y}, {x + 1, y + 1}, {x, y + 1}} {
			p[i].P[0] = api.Point{X: 16 * c[0], Y: 16 * c[1]}
		}
		return api.Mark{Kind: api.MFill, Path: p, Paint: api.Paint{Kind: api.PInk, Ink: api.Ink{0, k / 2, k, k / 3}}}
	}
	p := api.Page{W: 4, H: 2, Marks: []api.Mark{box(0, 0, 255), box(1, 0, 159), box(2, 0, 15), box(3, 0, 1), box(0, 1, 160), box(1, 1, 16), box(2, 1, 0)}}
	if s, e := Draw(p); s != "page 4 2\nF900\nA1..\n" || e != api.OK {
		t.Error(s, e)
	}
	for _, bad := range []api.Page{{}, {W: 257, H: 1}, {W: 1, H: 1, Marks: make([]api.Mark, 1)}} {
		if s, e := Draw(bad); s != "" || e != raster.CheckPage(bad) || e == api.OK {
			t.Error(bad, e)
		}
	}
}

func is(t *testing.T, input, want string) {
	t.Helper()
	if got := Run(input); got != want {
		t.Errorf("%.60q: %q, want %q", input, got, want)
	}
}

// P45.2
func TestCommands(t *testing.T) {
	d := document(square)
	for _, c := range []string{"", "check ", " check", "Check", "check 1", "run", "run  0", "run 0 ", "run 00", "run -0", "run +1", "run 12345", "run x", "run 0 0", "run 1.0", "sheets", "sheets 1 1 1 1 1 1 0 0 0", "sheets 1 1 1 1 1 1 0 0 0 0 0", "sheets 1 1 1 1 1 1 0 0 0 01", "check\r", "quit", "run 99999999999999999999"} {
		is(t, c+"\n"+d, "command\n")
		is(t, c, "command\n")
	}
	is(t, "check\n"+strings.Replace(d, "%%EndProlog\n", "", 1), "error 5 2\n")
	is(t, "check", "error 5 0\n")
	is(t, "run 9999", "error 5 0\n")
	is(t, "check\n", "error 5 0\n")
	is(t, "check\n"+d+"x", "error 5 7\n")
	is(t, "run 0\n"+strings.Replace(d, "%%EndComments", "%%Pages: 3\n%%EndComments", 1), "error 531 8\n")
	is(t, "sheets 9 9 1 1 64 64 0 0 0 0\n"+strings.Repeat("x", 20001), "error 3\n")
}

// P45.3
func TestRun(t *testing.T) {
	d := document(square)
	drawn := "page 64 64\n" + strings.Repeat(dots, 62) + strings.Repeat("FF"+dots[2:], 2)
	is(t, "check\n"+d, "leaves 1\n")
	is(t, "check\n"+document(), "leaves 0\n")
	is(t, "check\n"+document("(", "}"), "leaves 2\n")
	is(t, "run 0\n"+d, "outcome done\nprinted 0\n\npages 1\n"+drawn)
	is(t, "run -1\n"+document(square, "showpage"), "outcome done\nprinted 0\n\npages 2\n"+drawn+"page 64 64\n"+strings.Repeat(dots, 64))
	is(t, "run 1\n"+d, "error 2\n")
	is(t, "run -2\n"+d, "error 2\n")
	is(t, "run 0\n"+document("(a) = (b) print 1 add"), "outcome failed stackunderflow\nprinted 3\na\nb\npages 0\n")
	is(t, "run 0\n"+document("quit"), "outcome quit\nprinted 0\n\npages 0\n")
	is(t, "run 0\n"+document("{} loop"), "outcome timeout\nprinted 0\n\npages 0\n")
	is(t, "run 0\n"+document("stop"), "outcome stopped\nprinted 0\n\npages 0\n")
	is(t, "run 0\n"+document(strings.Repeat(" ", 4000)), "error 3\n")
	is(t, "run 0\n"+document(strings.Repeat(" ", 3999)), "outcome done\nprinted 0\n\npages 0\n")
	both := "page 200 64\n" + strings.Repeat(strings.Repeat(".", 200)+"\n", 62) + strings.Repeat("FF"+strings.Repeat(".", 198)+"\n", 2)
	report := "outcome done\nprinted 0\n\npages 1\n"
	is(t, "sheets 200 64 2 1 64 64 0 0 8 0\n"+d, report+both)
	is(t, "sheets 9 9 1 1 64 64 0 0 0 0\n"+d, report+"error 540\n")
	is(t, "sheets 63 63 1 1 63 63 0 0 0 0\n"+d, report+"error 2\n")
	is(t, "sheets 200 64 2 1 64 64 0 0 8 0\n"+document(), "outcome done\nprinted 0\n\npages 0\n")
	is(t, "sheets 200 64 2 1 64 64 0 0 8 0\n"+document(strings.Repeat(" ", 4000)), "error 3\n")
	two := strings.Split(Run("sheets 140 64 2 1 64 64 0 0 8 0\n"+document(square, square, square)), "\n")
	if len(two) != 4+2*65+1 || two[4] != "page 140 64" || two[4+63] != "FF"+strings.Repeat(".", 70)+"FF"+strings.Repeat(".", 66) || two[4+65] != "page 140 64" || two[4+65+63] != "FF"+strings.Repeat(".", 138) {
		t.Error(len(two), two[4])
	}
}

// P45.4
func TestConsequences(t *testing.T) {
	text := document("/x 5 def 0.5 setgray "+square, "x = <</PageSize [96 128]>> setpagedevice 10 10 moveto /Std findfont 30 scalefont setfont (AB) show showpage", "{1 add} stopped handleerror")
	inputs := []string{"check\n" + text, "run 0\n" + text, "run 1\n" + text, "run -1\n" + text, "sheets 210 150 2 1 100 128 3 4 5 0\n" + text}
	var first []string
	for _, in := range inputs {
		first = append(first, Run(in))
	}
	for i := len(inputs) - 1; i >= 0; i-- {
		is(t, inputs[i], first[i])
	}
	if !strings.HasPrefix(first[2], "outcome failed undefined\nprinted 0\n") || !strings.HasPrefix(first[3], "outcome done\nprinted 55\n5\n%%[ Error: stackunderflow; OffendingCommand: add ]%%\n\npages 2\npage 64 64\n") {
		t.Error(first[2], first[3])
	}
	// At its places a sheet shows what the drawn pages show.
	doc, _, _ := dsc.Parse(text)
	source, _ := dsc.Source(doc, -1)
	m, _, _ := job.Run(source, api.MaxFuel)
	plan := api.Plan{W: 210, H: 150, Across: 2, Down: 1, CellW: 100, CellH: 128, Left: 3, Top: 4, GapX: 5}
	sheet := strings.Split(first[4], "\n")
	sheet = sheet[len(sheet)-151 : len(sheet)-1]
	for k, p := range m.State.Pages {
		x, y, e := impose.Place(plan, k)
		s, _ := Draw(p)
		rows := strings.Split(s, "\n")[1:]
		for j := range p.H {
			if e != api.OK || sheet[y+j][x:x+p.W] != rows[j] {
				t.Fatal(k, j, sheet[y+j], rows[j])
			}
			sheet[y+j] = sheet[y+j][:x] + strings.Repeat(".", p.W) + sheet[y+j][x+p.W:]
		}
	}
	if len(m.State.Pages) != 2 || strings.Trim(strings.Join(sheet, ""), ".") != "" {
		t.Error("dots elsewhere", len(m.State.Pages))
	}
}
