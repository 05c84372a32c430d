package dsc

import (
	"math/rand"
	"reflect"
	"strconv"
	"strings"
	"testing"

	"chase/api"
)

// text joins lines, which are separated by semicolons and a blank.
func text(s string) string {
	if s == "" {
		return ""
	}
	return strings.ReplaceAll(s, "; ", "\n") + "\n"
}

const sample = "%!chase 1; %%Pages: 2; %%EndComments; /a 1 def; %%EndProlog; %%Page: i 1; a; %%Page: ii 2; %%Trailer; %%EOF"

func sampleDoc() api.Doc {
	return api.Doc{HasCount: true, Count: 2, Prolog: "/a 1 def\n", Leaves: []api.Leaf{{Label: "i", Body: "a\n"}, {Label: "ii"}}}
}

func same(a, b api.Doc) bool {
	for _, d := range []*api.Doc{&a, &b} {
		if len(d.Leaves) == 0 {
			d.Leaves = nil
		}
	}
	return reflect.DeepEqual(a, b)
}

func with(f func(*api.Doc)) api.Doc {
	d := sampleDoc()
	f(&d)
	return d
}

// P43.1
func TestCheckAndPrint(t *testing.T) {
	if s, e := Print(sampleDoc()); s != text(sample) || e != api.OK {
		t.Error(s, e)
	}
	full := api.Doc{Title: " a title", HasCount: true, HasBox: true, Box: [4]int{-9999, 0, 5, 9999}, HasSetup: true, Setup: "s\n", Trailer: "%%BeginDocument: x\n%%EOF\n%%EndDocument\n"}
	want := "%!chase 1; %%Title:  a title; %%Pages: 0; %%BoundingBox: -9999 0 5 9999; %%EndComments; %%EndProlog; %%BeginSetup; s; %%EndSetup; %%Trailer; %%BeginDocument: x; %%EOF; %%EndDocument; %%EOF"
	if s, e := Print(full); s != text(want) || e != api.OK {
		t.Error(s, e)
	}
	if s, e := Print(api.Doc{}); s != text("%!chase 1; %%EndComments; %%EndProlog; %%Trailer; %%EOF") || e != api.OK {
		t.Error(s, e)
	}
	part := text("x; %%BeginDocument:; %%Page: a 1; %%BeginDocument: b; %%EndDocument; %%EndProlog; %%EndDocument; %%Pages: 1; %%Title; %%BeginDocument")
	many := make([]api.Leaf, 21)
	for i := range many {
		many[i].Label = "x"
	}
	for i, d := range []api.Doc{with(func(d *api.Doc) { d.Prolog = part }), with(func(d *api.Doc) { d.Leaves[1].Body, d.Trailer = part, part }), with(func(d *api.Doc) { d.Title = strings.Repeat("\r", 100) }), with(func(d *api.Doc) { d.Leaves = many[:20] }), with(func(d *api.Doc) { d.Leaves[0].Label = strings.Repeat("~", 20) }), with(func(d *api.Doc) { d.Count = 20 }), with(func(d *api.Doc) { d.Prolog = "\n\n" })} {
		if e := Check(d); e != api.OK {
			t.Error(i, e)
		}
	}
	bad := []api.Doc{
		with(func(d *api.Doc) { d.Title = strings.Repeat("x", 101) }), with(func(d *api.Doc) { d.Title = "a\n" }), with(func(d *api.Doc) { d.Count = 21 }), with(func(d *api.Doc) { d.Count = -1 }), with(func(d *api.Doc) { d.HasCount = false }), with(func(d *api.Doc) { d.Box[3] = 1 }), with(func(d *api.Doc) { d.HasBox, d.Box[3] = true, 10000 }), with(func(d *api.Doc) { d.HasBox, d.Box[0] = true, -10000 }), with(func(d *api.Doc) { d.Setup = "a\n" }),
		with(func(d *api.Doc) { d.Leaves = many }), with(func(d *api.Doc) { d.Leaves[0].Label = "" }), with(func(d *api.Doc) { d.Leaves[0].Label = strings.Repeat("x", 21) }), with(func(d *api.Doc) { d.Leaves[0].Label = "a b" }), with(func(d *api.Doc) { d.Leaves[0].Label = "\x7f" }), with(func(d *api.Doc) { d.Prolog = strings.Repeat("x", 20000) + "\n" }),
	}
	for _, p := range []string{"a", "%%EndProlog\n", "%%EndComments\n", "%%BeginSetup\n", "%%EndSetup\n", "%%Trailer\n", "%%EOF\n", "%%Page:\n", "%%Page:x\n", "%%EndDocument\n", "%%BeginDocument:\n", "%%BeginDocument: a\n%%EndDocument\n%%EndDocument\n", "%%EndDocument\n%%BeginDocument:\n", "%%BeginDocument:\n%%EndDocument\n%%EOF\n", "%%BeginDocument:\n%%EndDocument"} {
		bad = append(bad, with(func(d *api.Doc) { d.Prolog = p }), with(func(d *api.Doc) { d.HasSetup, d.Setup = true, p }), with(func(d *api.Doc) { d.Trailer = p }), with(func(d *api.Doc) { d.Leaves[1].Body = p }))
	}
	for i, d := range bad {
		s, e := Print(d)
		p, e2 := Pick(d, make([]int, 30))
		src, e3 := Source(d, 99)
		if Check(d) != api.ErrDoc || s != "" || e != api.ErrDoc || !reflect.DeepEqual(p, api.Doc{}) || e2 != api.ErrDoc || src != "" || e3 != api.ErrDoc {
			t.Error(i, d, e, e2, e3)
		}
	}
	// The longest text
	d := sampleDoc()
	s, _ := Print(d)
	d.Trailer = strings.Repeat("x", 20000-len(s)-1) + "\n"
	if Check(d) != api.OK {
		t.Error("20000 octets")
	}
	d.Trailer = "x" + d.Trailer
	if Check(d) != api.ErrDoc {
		t.Error("20001 octets")
	}
}

// P43.2
func TestParse(t *testing.T) {
	parses := func(s string, want api.Doc) {
		t.Helper()
		if d, line, e := Parse(text(s)); !same(d, want) || line != 0 || e != api.OK || Check(d) != api.OK {
			t.Errorf("%s: %v %d %d", s, d, line, e)
		}
	}
	parses(sample, sampleDoc())
	parses(strings.Replace(sample, "; a;", "; %%BeginDocument: x; %%Trailer; %%EndDocument;", 1), with(func(d *api.Doc) { d.Leaves[0].Body = "%%BeginDocument: x\n%%Trailer\n%%EndDocument\n" }))
	parses("%!chase 1; %%BoundingBox: 1 -2 0 9999; %%Title: x y; %%Pages: 0; %%EndComments; %%EndProlog; %%BeginSetup; %%EndSetup; %%Trailer; %%EOF", api.Doc{Title: "x y", HasCount: true, HasBox: true, Box: [4]int{1, -2, 0, 9999}, HasSetup: true})
	parses("%!chase 1; %%EndComments; %%EndProlog; %%BeginSetup; s; %%EndSetup; %%Page: a 1; %%Trailer; t; %%EOF", api.Doc{HasSetup: true, Setup: "s\n", Leaves: []api.Leaf{{Label: "a"}}, Trailer: "t\n"})
	fails := func(whole string, line int, code api.Errno) {
		t.Helper()
		if d, n, e := Parse(whole); !reflect.DeepEqual(d, api.Doc{}) || n != line || e != code {
			t.Errorf("%.200q: %d %d, want %d %d", whole, n, e, line, code)
		}
	}
	form := func(s string, line int) {
		t.Helper()
		fails(text(s), line, api.ErrForm)
	}
	form("", 0)
	form("%!chase 2", 0)
	form("; "+sample, 0)
	form("%!chase 1", 1)
	form("%!chase 1; %%EndComments; /a 1 def", 3)
	form("%!chase 1; %%EndComments; /a 1 def; %%EndProlog", 4)
	form(strings.Replace(sample, "%%EndProlog; ", "", 1), 4)
	form(strings.Replace(sample, "ii 2", "ii 3", 1), 7)
	form(strings.Replace(sample, "ii 2", "ii 02", 1), 7)
	form(strings.Replace(sample, "ii 2", "i i 2", 1), 7)
	form(strings.Replace(sample, "ii 2", "2", 1), 7)
	form(strings.Replace(sample, "ii 2", " 2", 1), 7)
	form(strings.Replace(sample, "%%Page: ii 2", "%%Page:ii 2", 1), 7)
	form(strings.Replace(sample, "ii 2", "ii 2 ", 1), 7)
	form(strings.Replace(sample, "ii 2", strings.Repeat("x", 21)+" 2", 1), 7)
	for _, n := range []string{"02", "21", "-1", "", "-0", "+2", "2 ", " 2", "x"} {
		form(strings.Replace(sample, ": 2;", ": "+n+";", 1), 1)
	}
	for _, l := range []string{"%%Title:", "%%Title: ", "%%Title:x", "%%Title: " + strings.Repeat("x", 101), "%%Pages: 2", "%%BoundingBox: 1 2 3", "%%BoundingBox: 1 2 3 4 5", "%%BoundingBox: 1 2 3 10000", "%%BoundingBox: 1 2 3 -0", "%%BoundingBox:  1 2 3 4", "x", "", "%%EndProlog", "%!chase 1"} {
		form(strings.Replace(sample, "%%EndComments", l+"; %%EndComments", 1), 2)
	}
	form(strings.Replace(sample, "%%EndComments", "%%Title: a; %%Title: b; %%EndComments", 1), 3)
	form(strings.Replace(sample, "%%EndComments", "%%BoundingBox: 0 0 0 0; %%BoundingBox: 0 0 0 0; %%EndComments", 1), 3)
	for i, l := range []string{"%%EndComments", "%%BeginSetup", "%%EndSetup", "%%Trailer", "%%EOF", "%%EndDocument", "%%Page: a 1"} {
		form(strings.Replace(sample, "/a 1 def", l, 1), 3)
		if i != 3 && i != 6 {
			form(strings.Replace(sample, "; a;", "; "+l+";", 1), 6)
		}
	}
	form(strings.Replace(sample, "%%EndProlog", "%%EndProlog; x", 1), 5)
	form(strings.Replace(sample, "%%EndProlog", "%%EndProlog; %%BeginSetup; %%EndSetup; x", 1), 7)
	form(strings.Replace(sample, "%%EndProlog", "%%EndProlog; %%BeginSetup; %%EndSetup; %%BeginSetup", 1), 7)
	form(strings.Replace(sample, "%%EndProlog", "%%EndProlog; %%BeginSetup; %%EndProlog", 1), 6)
	form(sample+"; ", 10)
	form(sample+"; x", 10)
	form(strings.Replace(sample, "%%EOF", "%%Trailer; %%EOF", 1), 9)
	form(strings.Replace(sample, "; a;", "; %%BeginDocument: x; a;", 1), 11)
	fails(text(sample)+"x", 10, api.ErrForm)
	fails(strings.TrimSuffix(text(sample), "\n"), 9, api.ErrForm)
	fails("%!chase 1", 0, api.ErrForm)
	fails(text(strings.Replace(sample, ": 2;", ": 3;", 1)), 10, api.ErrCount)
	fails(text(strings.Replace(sample, ": 2;", ": 0;", 1)), 10, api.ErrCount)
	fails(strings.Repeat("x", 20001), 0, api.ErrLong)
	fails(strings.Repeat("x", 20000), 0, api.ErrForm)
	pages := "%!chase 1; %%EndComments; %%EndProlog"
	for i := range 21 {
		pages += "; %%Page: x " + strconv.Itoa(i+1)
	}
	form(pages+"; %%Trailer; %%EOF", 23)
}

// P43.3, P43.4
func TestPickAndSource(t *testing.T) {
	d, e := Pick(sampleDoc(), []int{1, 0, 0})
	want := with(func(d *api.Doc) {
		d.Count, d.Leaves = 3, []api.Leaf{{Label: "ii"}, {Label: "i", Body: "a\n"}, {Label: "i", Body: "a\n"}}
	})
	if !same(d, want) || e != api.OK {
		t.Error(d, e)
	}
	if s, e := Source(d, 1); s != "/a 1 def\na\n" || e != api.OK {
		t.Error(s, e)
	}
	d.HasSetup, d.Setup, d.Trailer = true, "s\n", "t\n"
	if s, e := Source(d, -1); s != "/a 1 def\ns\na\na\nt\n" || e != api.OK {
		t.Error(s, e)
	}
	if s, e := Source(d, 0); s != "/a 1 def\ns\n" || e != api.OK {
		t.Error(s, e)
	}
	for _, leaf := range []int{-2, 3, 1 << 62} {
		if s, e := Source(d, leaf); s != "" || e != api.ErrArg {
			t.Error(leaf, e)
		}
	}
	if x, e := Pick(api.Doc{}, nil); !same(x, api.Doc{}) || e != api.OK {
		t.Error(x, e)
	}
	if x, e := Pick(with(func(d *api.Doc) { d.HasCount, d.Count = false, 0 }), []int{0}); x.Count != 0 || len(x.Leaves) != 1 || e != api.OK {
		t.Error(x, e)
	}
	long := with(func(d *api.Doc) { d.Leaves[0].Body = strings.Repeat("x", 9000) + "\n" })
	for i, c := range []struct {
		d     api.Doc
		order []int
		e     api.Errno
	}{{d, make([]int, 21), api.ErrLong}, {d, []int{0, 3}, api.ErrArg}, {d, []int{-1}, api.ErrArg}, {long, []int{0, 0, 0}, api.ErrDoc}, {long, []int{0, 0, 5}, api.ErrArg}, {d, make([]int, 20), 0}, {long, []int{0, 0}, 0}} {
		if x, e := Pick(c.d, c.order); e != c.e || e != api.OK && !reflect.DeepEqual(x, api.Doc{}) {
			t.Error(i, e)
		}
	}
}

// P43.5
func TestConsequences(t *testing.T) {
	r := rand.New(rand.NewSource(1))
	part := func() string {
		var out []string
		depth := 0
		for range r.Intn(5) {
			l := []string{"a", "%%BeginDocument: x", "%%EndDocument", "%%Page: a 1", "%%EOF", "%%EndProlog", "", "%%Title: x"}[r.Intn(8)]
			switch {
			case strings.HasPrefix(l, wordBeginDocument):
				depth++
			case l == lineEndDocument && depth > 0:
				depth--
			case depth == 0 && (isMark(l) || l == lineEndDocument):
				continue
			}
			out = append(out, l+"\n")
		}
		return strings.Join(out, "") + strings.Repeat("%%EndDocument\n", depth)
	}
	for range 1000 {
		d := api.Doc{Title: []string{"", "t", " x "}[r.Intn(3)], HasBox: r.Intn(2) == 0, Prolog: part(), HasSetup: r.Intn(2) == 0, Trailer: part()}
		for i := range d.Box {
			if d.HasBox {
				d.Box[i] = r.Intn(30) - 15
			}
		}
		if d.HasSetup {
			d.Setup = part()
		}
		for range r.Intn(4) {
			d.Leaves = append(d.Leaves, api.Leaf{Label: "l" + strconv.Itoa(r.Intn(9)), Body: part()})
		}
		if r.Intn(2) == 0 {
			d.HasCount, d.Count = true, len(d.Leaves)
		}
		s, e := Print(d)
		back, _, e2 := Parse(s)
		if e != api.OK || e2 != api.OK || !same(back, d) {
			t.Fatal(s, e, e2)
		}
		// The lines of a text go on as far as its beginning is that of another one.
		l := strings.SplitAfter(s, "\n")
		l = l[:len(l)-1]
		cut := r.Intn(len(l))
		if _, n, e := Parse(strings.Join(l[:cut], "")); n != cut || e != api.ErrForm {
			t.Error(cut, n, e)
		}
		at := r.Intn(len(l))
		l[at] = []string{"%%EOF\n", "%%Page: z 1\n", "%%EndDocument\n", "zz\n", "%%Trailer\n"}[r.Intn(5)]
		changed := strings.Join(l, "")
		if back, n, e := Parse(changed); e == api.ErrForm && n < at || e == api.OK && (Check(back) != api.OK || n != 0) {
			t.Error(changed, n, e)
		}
		if k := len(d.Leaves); k > 0 {
			a, b := []int{r.Intn(k), r.Intn(k), r.Intn(k)}, []int{r.Intn(3), r.Intn(3)}
			once, _ := Pick(d, []int{a[b[0]], a[b[1]]})
			twice, _ := Pick(d, a)
			if twice, _ = Pick(twice, b); !same(once, twice) {
				t.Error("picked twice")
			}
		}
	}
}
