package file

import (
	"math/rand"
	"reflect"
	"strings"
	"testing"

	"chase/api"
	"chase/ascii"
	"chase/lzw"
	"chase/runs"
	"chase/sketch"
)

func state(text string) api.State {
	return sketch.Put(api.State{Out: "o", Seed: 3}, text)
}

func does(t *testing.T, from, op, to, out string) {
	t.Helper()
	s := state(from)
	got, e := Do(s, op)
	if e != api.OK || sketch.Show(got) != to || got.Out != "o"+out {
		t.Errorf("%s, %s: %s, %q, %d; want %s", from, op, sketch.Show(got), got.Out, e, to)
	}
	if !reflect.DeepEqual(s, state(from)) || got.Seed != 3 {
		t.Errorf("%s, %s changes the old state, or more", from, op)
	}
}

func fails(t *testing.T, from, op string, code api.Errno) {
	t.Helper()
	s := state(from)
	got, e := Do(s, op)
	if e != code || !reflect.DeepEqual(got, s) {
		t.Errorf("%.40s, %s: %s %d, want %d", from, op, sketch.Show(got), e, code)
	}
}

// P17.1
func TestOpsAndShow(t *testing.T) {
	if got := strings.Join(Ops(), " "); got != "filter read readstring readhexstring readline closefile bytesavailable status print = ==" {
		t.Error(got)
	}
	for text, want := range map[string]string{
		"-7": "-7", "0.5": "0.5", "true": "true", "null": "null", "mark": "-mark-", "<<>>": "-dict-", "() file": "-file-", "() closed": "-file-", "1 save": "-save-", "/a": "/a", "a": "a", "/": "/", "add op": "--add--", "/add op": "--add--",
		"(a(\\n)": `(a\(\012)`, "(a) exec": "(a)", "[]": "[]", "{}": "{}", "[1 (x) {a /b}]": "[1 (x) {a /b}]", "[1 2] packed": "[1 2]", "{1} packed exec": "{1}", "[[[[1]]]]": "[[[[1]]]]", "[1 [[[[2] 3] {}]]]": "[1 [[[-array- 3] {}]]]", "{{{{{}}}}}": "{{{{-array-}}}}",
	} {
		s := state(text)
		if strings.HasPrefix(text, "(a(") {
			s = state("(a\\(\\n)")
		}
		if got, ok := Show(s.Heap, s.Ops[0]); got != want || !ok {
			t.Errorf("%s: %s %v", text, got, ok)
		}
	}
	if s, ok := Show(nil, api.Obj{Kind: api.KDict}); s != "" || ok {
		t.Error("an object that does not fit")
	}
	// [1 1 ..] with 2000 octets
	items := make([]api.Obj, 999)
	for i := range items {
		items[i] = api.Obj{Kind: api.KInt, N: 1}
	}
	items[0].N = 11
	h := []api.Cell{{Kind: api.CArray, Items: items}}
	o := api.Obj{Kind: api.KArray, Len: 999}
	if s, ok := Show(h, o); len(s) != 2000 || !ok {
		t.Error(len(s), ok)
	}
	items[1].N = 11
	if s, ok := Show(h, o); s != "" || ok {
		t.Error(len(s), ok)
	}
	for i := range items {
		items[i] = o
	}
	if s, ok := Show(h, o); s != "" || ok {
		t.Error("an array that contains itself")
	}
}

// P17.2
func TestFilter(t *testing.T) {
	does(t, "1 (6162>) /hex", "filter", "1 (ab) file", "")
	does(t, "(\\377a\\200) runs", "filter", "(aa) file", "")
	fails(t, "(6g) /hex", "filter", api.IOError)
	fails(t, "(x) /zip", "filter", api.Undefined)
	fails(t, "(\\001) /fax", "filter", api.Undefined)
	fails(t, "(\\001) /cosine", "filter", api.Undefined)
	fails(t, "/hex", "filter", api.StackUnderflow)
	fails(t, "/hex (a)", "filter", api.TypeCheck)
	fails(t, "(41>) (hex)", "filter", api.TypeCheck)
	s := state("() /runs")
	long, _ := runs.Encode(strings.Repeat("x", 4001))
	s.Heap[0].Bytes, s.Ops[0].Len = long, len(long)
	if got, e := Do(s, "filter"); e != api.LimitCheck || !reflect.DeepEqual(got, s) {
		t.Error(e)
	}
	for range 4 {
		s.Heap = append(s.Heap, api.Cell{Kind: api.CFile, Bytes: strings.Repeat("x", 3999)})
	}
	longest, _ := runs.Encode(strings.Repeat("x", 4000))
	s.Heap[0].Bytes, s.Ops[0].Len = longest, len(longest)
	if _, e := Do(s, "filter"); e != api.VMError {
		t.Error(e)
	}
}

func TestReading(t *testing.T) {
	does(t, "(ab) file", "read", "97 true", "")
	does(t, "() file", "read", "false", "")
	fails(t, "(ab) closed", "read", api.IOError)
	fails(t, "1", "read", api.TypeCheck)
	fails(t, strings.Repeat("1 ", 99)+"(a) file", "read", api.StackOverflow)
	does(t, strings.Repeat("1 ", 99)+"() file", "read", strings.Repeat("1 ", 99)+"false", "")
	does(t, "(ab\\015\\012c) file (123)", "readstring", "(ab\\015) true", "")
	does(t, "(ab) file (123)", "readstring", "(ab) false", "")
	does(t, "() file (123)", "readstring", "() false", "")
	does(t, "(4 1z42 5) file (123)", "readhexstring", "(ABP) true", "")
	does(t, "(aFb) file (123)", "readhexstring", "(\\257\\260) false", "")
	does(t, "(zz) file (123)", "readhexstring", "() false", "")
	does(t, "(b\\015\\012c) file (123)", "readline", "(b) true", "")
	does(t, "(\\012) file (123)", "readline", "() true", "")
	does(t, "(abc) file (123)", "readline", "(abc) false", "")
	does(t, "() file (123) exec", "readline", "() exec false", "")
	fails(t, "(abcd) file (123)", "readline", api.RangeCheck)
	for _, op := range []string{"readstring", "readhexstring", "readline"} {
		fails(t, "(abc) closed ()", op, api.IOError)
		fails(t, "(abc) file ()", op, api.RangeCheck)
		fails(t, "(abc) file 1", op, api.TypeCheck)
		fails(t, "(abc) (123)", op, api.TypeCheck)
		fails(t, "(123)", op, api.StackUnderflow)
	}
}

func TestFiles(t *testing.T) {
	s := state("(abc) file (12345)")
	f, into := s.Ops[0], s.Ops[1]
	step := func(op, want string, l ...api.Obj) {
		t.Helper()
		s.Ops = l
		next, e := Do(s, op)
		if got := sketch.Show(next); e != api.OK || got != want {
			t.Errorf("%s: %s %d, want %s", op, got, e, want)
		}
		s = next
	}
	s.Heap[0].Bytes = "a1b\r\n\rc2"
	step("status", "true", f)
	step("read", "97 true", f)
	step("bytesavailable", "7", f)
	step("readline", "(1b) true", f, into)
	if s.Heap[1].Bytes != "1b345" {
		t.Error(s.Heap[1].Bytes)
	}
	step("readline", "() true", f, into)
	short := into
	short.Off, short.Len = 3, 1
	step("readhexstring", "(\\302) true", f, short)
	step("bytesavailable", "0", f)
	step("readhexstring", "() false", f, short)
	step("readline", "() false", f, into)
	step("readstring", "() false", f, into)
	step("status", "true", f)
	step("read", "false", f)
	step("status", "false", f)
	s.Ops = []api.Obj{f}
	if _, e := Do(s, "read"); e != api.IOError {
		t.Error(e)
	}
	does(t, "1 (ab) file", "closefile", "1", "")
	does(t, "(ab) closed", "closefile", "", "")
	does(t, "(ab) closed", "bytesavailable", "0", "")
	does(t, "(ab) file", "bytesavailable", "2", "")
	does(t, "(ab) closed", "status", "false", "")
	s = state("(ab) file")
	f = s.Ops[0]
	step("closefile", "", f)
	step("status", "false", f)
	for _, op := range []string{"closefile", "bytesavailable", "status"} {
		fails(t, "(a)", op, api.TypeCheck)
		fails(t, "", op, api.StackUnderflow)
	}
}

func TestPrinting(t *testing.T) {
	does(t, "1 (ab)", "print", "1", "ab")
	does(t, "1.5", "=", "", "1.5\n")
	does(t, "mark", "=", "", "--nostringval--\n")
	does(t, "(a b)", "=", "", "a b\n")
	does(t, "/a", "==", "", "/a\n")
	does(t, "[1 (x) {a /b}]", "==", "", "[1 (x) {a /b}]\n")
	fails(t, "1", "print", api.TypeCheck)
	for _, op := range []string{"print", "=", "=="} {
		fails(t, "", op, api.StackUnderflow)
	}
	s := state("(12345)")
	for op, n := range map[string]int{"print": 5, "=": 6, "==": 8} {
		s.Out = strings.Repeat("x", 2000-n)
		if got, e := Do(s, op); e != api.OK || len(got.Out) != 2000 {
			t.Error(op, len(got.Out), e)
		}
		s.Out += "x"
		if got, e := Do(s, op); e != api.LimitCheck || len(got.Out) != 2001-n {
			t.Error(op, len(got.Out), e)
		}
	}
	fails(t, "["+strings.Repeat("(123456789012345678901234567890) ", 90)+"]", "==", api.LimitCheck)
	fails(t, "1", "frob", api.Undefined)
}

// P17.3
func TestConsequences(t *testing.T) {
	r := rand.New(rand.NewSource(1))
	for range 200 {
		b := make([]byte, r.Intn(60))
		for i := range b {
			b[i] = "ab\r\n3f"[r.Intn(6)]
		}
		for _, op := range []string{"readstring", "readline", "read"} {
			s := state("() file (" + strings.Repeat("x", 60) + ")")
			s.Heap[0].Bytes = string(b)
			f, into := s.Ops[0], s.Ops[1]
			got := ""
			for range 70 {
				at := s.Heap[0].At
				into.Len = 60
				s.Ops = []api.Obj{f, into}
				switch op {
				case "readstring":
					s.Ops[1].Len = 1 + r.Intn(9)
				case "read":
					s.Ops = s.Ops[:1]
				}
				next, e := Do(s, op)
				if e == api.IOError {
					break
				}
				if op == "read" && len(next.Ops) == 2 {
					got += string([]byte{byte(next.Ops[0].N)})
				} else if op != "read" {
					x := next.Ops[0]
					got += next.Heap[1].Bytes[x.Off : x.Off+x.Len]
					if op == "readline" {
						got += string(b[at+x.Len : next.Heap[0].At])
					}
				}
				s = next
			}
			if got != string(b) {
				t.Errorf("%s: %q instead of %q", op, got, b)
			}
		}
		for name, encode := range map[string]func(string) (string, api.Errno){"hex": ascii.Hex, "base85": ascii.Base85, "runs": runs.Encode, "lzw": lzw.Encode} {
			text, _ := encode(string(b))
			s := state("() /" + name)
			s.Heap[0].Bytes, s.Ops[0].Len = text, len(text)
			if got, e := Do(s, "filter"); e != api.OK || got.Heap[1].Bytes != string(b) {
				t.Error(name, e)
			}
		}
	}
	// R1
	odd := []api.Obj{{Kind: api.KInt, N: 1 << 62}, {Kind: 99}, {Kind: api.KString, Len: 5}, {Kind: api.KFile, Ref: 1}, {Kind: api.KFile, Ref: 2}, {Kind: api.KFile, Ref: 9}, {Kind: api.KArray, Ref: 3, Len: 2}, {Kind: api.KName, Name: "hex"}}
	for _, op := range Ops() {
		for _, a := range odd {
			for _, b := range odd {
				s := api.State{Ops: []api.Obj{a, b}, Heap: []api.Cell{{Kind: api.CString, Bytes: "41>abc"}, {Kind: api.CFile, Bytes: "abc", At: 7, Max: 1}, {Kind: api.CFile, Bytes: "abc", At: -7, Max: 1}, {Kind: api.CArray, Items: []api.Obj{a, b}}}}
				if got, e := Do(s, op); e != api.OK && !reflect.DeepEqual(got, s) {
					t.Error(op, a, b)
				}
			}
		}
	}
}
