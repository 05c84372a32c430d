package machine

import (
	"math/rand"
	"reflect"
	"slices"
	"strings"
	"testing"

	"chase/api"
	"chase/fault"
	"chase/gstate"
	"chase/heap"
	"chase/sketch"
)

// base has a systemdict with all operators, and the default handlers.
func base(t *testing.T) api.State {
	t.Helper()
	h := make([]api.Cell, api.FirstRefs)
	for i := range h {
		h[i].Kind = api.CDict
		h[i].Max = 10
	}
	h[0].Max, h[1].Max, h[2].Max, h[3].Max = 200, 50, 30, 12
	for _, n := range Names() {
		h[0].Keys = append(h[0].Keys, literal(n))
		h[0].Vals = append(h[0].Vals, api.Obj{Kind: api.KOperator, Exec: true, Name: n})
	}
	for i, n := range []string{"errordict", "$error"} {
		h[0].Keys = append(h[0].Keys, literal(n))
		h[0].Vals = append(h[0].Vals, api.Obj{Kind: api.KDict, Ref: 2 + i})
	}
	h, e := fault.Install(h)
	g, e2 := gstate.Initial(64, 64)
	if e != api.OK || e2 != api.OK {
		t.Fatal(e, e2)
	}
	return api.State{Heap: h, Dicts: []api.Obj{{Kind: api.KDict}, {Kind: api.KDict, Ref: 1}}, G: g, Seed: 1}
}

func execute(t *testing.T, program string) api.Machine {
	t.Helper()
	m, _ := Run(Start(base(t), program), api.MaxFuel)
	if e := heap.Check(m.State.Heap); e != api.OK || len(m.State.Ops) > api.MaxOps || len(m.Exec) > api.MaxExec+1 {
		t.Errorf("%.60s: %d, %d operands, %d frames", program, e, len(m.State.Ops), len(m.Exec))
	}
	return m
}

// leaves runs a program to its end.
func leaves(t *testing.T, program, want string) {
	t.Helper()
	m := execute(t, program)
	if got := sketch.Show(m.State); m.Status != api.MDone || got != want || len(m.Exec) != 0 {
		t.Errorf("%.80s: %s, status %d, error %d; want %s", program, got, m.Status, m.Err, want)
	}
}

// fails runs a program that fails.
func fails(t *testing.T, program string, code api.Errno, want string) {
	t.Helper()
	m := execute(t, program)
	if got := sketch.Show(m.State); m.Status != api.MFailed || m.Err != code || got != want || len(m.Exec) != 0 {
		t.Errorf("%.80s: %.200s, status %d, error %d; want %s, %d", program, got, m.Status, m.Err, want, code)
	}
}

// P41.1
func TestNames(t *testing.T) {
	names := Names()
	seen := map[string]bool{}
	for _, n := range names {
		if seen[n] {
			t.Error("twice:", n)
		}
		seen[n] = true
	}
	text := strings.Join(names, " ")
	for _, part := range []string{
		"exec if ifelse repeat for loop forall exit stopped stop quit bind token countexecstack pop exch dup copy index", "counttomark add sub", "rand srand eq ne", "cvs cvrs string array packedarray length get put getinterval", "[ ] dict begin", "countdictstack maxlength << >> filter read",
		"= == defineresource", "resourcestatus save restore vmstatus setpagedevice currentpagedevice gsave", "showpage definefont", "charpath .record handleerror",
	} {
		if !strings.Contains(" "+text+" ", " "+part+" ") {
			t.Error(part)
		}
	}
	if len(names) != 170 || len(controls()) != len(controlNames()) {
		t.Error(len(names))
	}
}

// P41.2, P41.3
func TestStartStepRun(t *testing.T) {
	s := base(t)
	m := Start(s, "1 2 add")
	if !reflect.DeepEqual(m, api.Machine{State: s, Exec: []api.Frame{{Kind: api.FrText, Text: "1 2 add"}}}) {
		t.Error(m.Exec, m.Status)
	}
	if m := Start(s, strings.Repeat(" ", 4001)); !reflect.DeepEqual(m, api.Machine{State: s, Status: api.MFailed, Err: api.LimitCheck}) {
		t.Error(m.Status, m.Err)
	}
	if m := Start(s, strings.Repeat(" ", 4000)); m.Status != api.MRunning {
		t.Error(m.Status)
	}
	old := slices.Clone(m.Exec)
	steps := 0
	x := m
	for x.Status == api.MRunning {
		x = Step(x)
		steps++
	}
	// Three tokens, the end of the text, and the end of all.
	if steps != 5 || x.Status != api.MDone || sketch.Show(x.State) != "3" || !reflect.DeepEqual(Step(x), x) || !reflect.DeepEqual(m.Exec, old) {
		t.Error(steps, x.Status)
	}
	for fuel, want := range map[int]int{5: 0, 7: 2, 4: 0, 0: 0, -3: 0} {
		y, rest := Run(m, fuel)
		if rest != want || (y.Status == api.MDone) != (fuel >= 5) {
			t.Error(fuel, rest, y.Status)
		}
	}
	if y, rest := Run(x, 9); rest != 9 || !reflect.DeepEqual(y, x) {
		t.Error(rest)
	}
}

// P41.4
func TestRead(t *testing.T) {
	s := base(t)
	for _, c := range []struct {
		src  string
		at   int
		want string
		next int
	}{
		{"1 2", 0, "1", 1}, {"1 2", 1, "2", 3}, {" -2.5x ", 0, "-2.5x", 6}, {"2.5 ", 0, "2.5", 3}, {"/a b", 0, "/a", 2}, {"b/a", 0, "b", 1}, {"(x)y", 0, "(x)", 3}, {"{1 {a (b)} [ }z", 0, "[1 [a (b)] exec [] exec", 14}, {"{} ", 0, "[] exec", 2}, {"//add", 0, "add op", 5}, {"{//add}", 0, "[add op] exec", 7}, {"[", 0, "[", 1},
	} {
		got, o, next, e := Read(s, c.src, c.at)
		text := sketch.Text(got.Heap, []api.Obj{o})
		if text != c.want || next != c.next || e != api.OK {
			t.Errorf("%s: %s %d %d", c.src, text, next, e)
		}
	}
	got, o, _, _ := Read(s, "{(a) {(b)} (c)}", 0)
	n := len(s.Heap)
	if len(got.Heap) != n+5 || o.Ref != n+4 || got.Heap[n].Bytes != "a" || got.Heap[n+1].Bytes != "b" || got.Heap[n+2].Kind != api.CArray || got.Heap[n+3].Bytes != "c" {
		t.Error("the order of the cells", got.Heap[n:])
	}
	many := strings.Repeat("1 ", 1000)
	for _, c := range []struct {
		src string
		at  int
		e   api.Errno
	}{
		{"", 0, api.ErrNone}, {" % x", 0, api.ErrNone}, {"1", 1, api.ErrNone}, {"1", 2, api.ErrArg}, {"1", -1, api.ErrArg}, {strings.Repeat(" ", 4001), 0, api.ErrArg}, {"}", 0, api.SyntaxError}, {"{", 0, api.SyntaxError}, {"{1 {2}", 0, api.SyntaxError}, {"{)}", 0, api.SyntaxError}, {")", 0, api.SyntaxError}, {"//none", 0, api.Undefined}, {"{//none )", 0, api.Undefined}, {"{99999999999}", 0, api.LimitCheck},
		{"{" + many + "1}", 0, api.LimitCheck}, {"{" + many + "1 )", 0, api.LimitCheck}, {"{" + many + ")", 0, api.SyntaxError}, {"{" + many, 0, api.SyntaxError},
	} {
		got, o, next, e := Read(s, c.src, c.at)
		if e != c.e || next != 0 || o != (api.Obj{}) || len(got.Heap) != len(s.Heap) {
			t.Errorf("%.20s: %d", c.src, e)
		}
	}
	if _, o, _, e := Read(s, "{"+many+"}", 0); e != api.OK || o.Len != 1000 {
		t.Error(o, e)
	}
	full := s
	full.Heap = append(slices.Clone(s.Heap), api.Cell{Kind: api.CFile, Bytes: strings.Repeat("x", api.MaxHeap-heap.Total(s.Heap)-4)})
	for src, want := range map[string]api.Errno{"(ab)": 0, "(abc)": api.VMError, "{1 2}": 0, "{(a)}": api.VMError, "{(a) )": api.SyntaxError, "{(abc) )": api.VMError} {
		if _, _, _, e := Read(full, src, 0); e != want {
			t.Error(src, e)
		}
	}
}

func TestExamples(t *testing.T) {
	leaves(t, "1 2 add", "3")
	leaves(t, "3 {1} repeat", "1 1 1")
	leaves(t, "1 1 3 {} for", "1 2 3")
	leaves(t, "[5 6] {} forall", "5 6")
	leaves(t, "(a) {} forall", "97")
	leaves(t, "{1 add} stopped", "1 true")
	leaves(t, "{2} stopped", "2 false")
	leaves(t, "{stop} stopped", "true")
	fails(t, "1 add", api.StackUnderflow, "1")
	leaves(t, "0 {1 add dup 3 eq {exit} if} loop", "3")
	leaves(t, "(1 {2} x) token", "( {2} x) 1 true")
	leaves(t, "/f {1 add} bind def 2 f", "3")
	fails(t, "exit", api.InvalidExit, "")
	fails(t, "{exit} exec", api.InvalidExit, "")
	fails(t, "save {restore 1} exec", api.InvalidRestore, "1 save")
	m := execute(t, "7 quit 8")
	if m.Status != api.MQuit || sketch.Show(m.State) != "7" || len(m.Exec) != 0 {
		t.Error(m.Status)
	}
	if m := execute(t, "save {1} 1 index restore"); m.Status != api.MFailed || m.Err != api.InvalidRestore {
		t.Error(m.Status, m.Err)
	}
	leaves(t, "save restore", "")
}

func TestExecution(t *testing.T) {
	leaves(t, "/a 5 def a /a", "5 /a")
	leaves(t, "/a /b def /b 6 def a", "/b")
	leaves(t, "/b 6 def /a /b cvx def a", "6")
	leaves(t, "/a {1 {2 add} exec} def a", "3")
	leaves(t, "{1 {2}} exec exec", "1 2")
	leaves(t, "{1 {2}} exec", "1 [2] exec")
	leaves(t, "(1 2 add) cvx exec", "3")
	leaves(t, "/s (1 2 add) cvx def s", "3")
	leaves(t, "(1 2 add) exec", "(1 2 add)")
	leaves(t, "() cvx exec {} exec null cvx exec", "")
	leaves(t, "5 cvx exec mark cvx exec", "5 exec mark exec")
	leaves(t, "{[1 2]} exec", "[1 2]")
	leaves(t, "/p [1 /add cvx] cvx def 4 p", "5")
	leaves(t, "[/dup cvx /add cvx] cvx 3 exch exec", "6")
	leaves(t, "1 2 [/add cvx] cvx 1 packedarray cvx exec exec", "3")
	leaves(t, "(3120>) /hex filter cvx exec", "1")
	leaves(t, "(3132>) /hex filter dup cvx exec exch status", "12 false")
	leaves(t, "(313233>) /hex filter dup read pop pop dup cvx exec exch dup bytesavailable exch status", "23 0 false")
	fails(t, "(31>) /hex filter dup closefile cvx exec", api.IOError, "")
	fails(t, "1 none 2", api.Undefined, "1")
	fails(t, "1 > 2", api.SyntaxError, "1")
	fails(t, "1 (2 }) cvx exec 3", api.SyntaxError, "1 2")
	fails(t, "//none", api.Undefined, "")
	leaves(t, "/x 3 def {//x} exec //x", "3 3")
	leaves(t, "//add cvlit", "/add op")
	fails(t, "/frob cvx exec", api.Undefined, "")
	fails(t, strings.Repeat("1 ", 101), api.StackOverflow, "["+strings.TrimSpace(strings.Repeat("1 ", 100))+"]")
	leaves(t, strings.Repeat("1 ", 100), strings.TrimSpace(strings.Repeat("1 ", 100)))
	// Operators that several layers have
	leaves(t, "<</a 1>> length [1 2] length /abc length (x) length", "1 2 3 1")
	leaves(t, "<</a 1>> /a get [5] 0 get (a) 0 get", "1 5 97")
	leaves(t, "<</a 1>> dup /a 2 put /a get [5] dup 0 6 put (a) dup 0 98 put", "2 [6] (b)")
	leaves(t, "1 2 2 copy [7] [8 9] copy <</a 1>> 5 dict copy", "1 2 1 2 [7] <</a 1>> 4 spare")
	fails(t, "copy", api.StackUnderflow, "")
	fails(t, "1.0 copy", api.StackUnderflow, "1.0")
	fails(t, "1 1.0 copy", api.TypeCheck, "1 1.0")
	fails(t, "1 get", api.StackUnderflow, "1")
	fails(t, "put", api.StackUnderflow, "")
	fails(t, "1 length", api.TypeCheck, "1")
	leaves(t, "64 96 moveto currentpoint currentpagedevice /PageSize get vmstatus pop pop", "64.0 96.0 [64 64] 0")
}

func TestControl(t *testing.T) {
	leaves(t, "true {1} if false {2} if true {} if", "1")
	leaves(t, "true {1} {2} ifelse false {1} {2} ifelse", "1 2")
	leaves(t, "0 {1} repeat 2 {} repeat", "")
	leaves(t, "3 -1 1 {} for 1 1 0 {9} for 0 0.5 1 {} for 1 -2 -4 {} for", "3 2 1 0.0 0.5 1.0 1 -1 -3")
	leaves(t, "1.0 1 2 {} for 1 1 2.5 {} for", "1.0 2.0 1.0 2.0")
	leaves(t, "2147483647 1 2147483647 {} for -2147483648 -1 -2147483648 {} for", "2147483647 -2147483648")
	leaves(t, "1 0 1 {exit} for", "1")
	leaves(t, "<</a 1 /b 2>> {} forall [] {9} forall () {9} forall <<>> {9} forall", "/a 1 /b 2")
	leaves(t, "[1 2 3] {dup 2 eq {exit} if} forall", "1 2")
}

func TestControlErrors(t *testing.T) {
	few := map[string][]string{"exec": {""}, "stopped": {""}, "if": {"", "{}"}, "ifelse": {"", "true {}"}, "repeat": {"", "{}"}, "for": {"", "1 2 {}"}, "loop": {""}, "forall": {"", "{}"}, "bind": {""}, "token": {""}}
	odd := map[string][]string{"if": {"true 1", "1 {}", "true [1]"}, "ifelse": {"1 {} {}", "true 1 {}", "true {} []"}, "repeat": {"1.0 {}", "1 1"}, "for": {"(a) 1 1 {}", "1 true 1 {}", "1 1 null {}", "1 1 1 1"}, "loop": {"1", "[1]"}, "forall": {"1 {}", "[] []", "/a {}"}, "bind": {"1", "[1]"}, "token": {"1", "[1]"}}
	for want, programs := range map[api.Errno]map[string][]string{api.StackUnderflow: few, api.TypeCheck: odd} {
		for op, operands := range programs {
			for _, text := range operands {
				m := execute(t, text+" "+op)
				if m.Status != api.MFailed || m.Err != want {
					t.Errorf("%s %s: %d %d, want %d", text, op, m.Status, m.Err, want)
				}
			}
		}
	}
	fails(t, "-1 {} repeat", api.RangeCheck, "-1 [] exec")
	fails(t, "40000 1 2.0 {} for", api.UndefinedResult, "40000 1 2.0 [] exec")
	leaves(t, "1 {2 {3 exit 4} loop 5} exec", "1 2 3 5")
	fails(t, "{(exit) cvx exec} loop", api.InvalidExit, "")
	leaves(t, "{{exit} stopped exit} loop", "true")
	leaves(t, "countexecstack {countexecstack} exec {countexecstack 0} exec {countexecstack 0} stopped", "1 1 2 0 3 0 false")
	leaves(t, "{{1 stop 2} stopped 3} stopped", "1 true 3 false")
	m := execute(t, "1 stop 2")
	if m.Status != api.MFailed || m.Err != api.OK || sketch.Show(m.State) != "1" {
		t.Error(m.Status, m.Err)
	}
	leaves(t, "{"+strings.Repeat("1 ", 100)+"stop} stopped", strings.Repeat("1 ", 99)+"true")
	fails(t, strings.Repeat("1 ", 100)+"countexecstack", api.StackOverflow, "["+strings.TrimSpace(strings.Repeat("1 ", 100))+"]")
}

func TestBindAndToken(t *testing.T) {
	leaves(t, "/x 1 def {add x none {sub} /mul [/div cvx]} bind", "[add op x none [sub op] exec /mul [ op /div cvx op ] op] exec")
	leaves(t, "[/add cvx {sub} [/mul cvx]] cvx bind", "[add op [sub op] exec [mul]] exec")
	leaves(t, "[/add cvx] cvx dup 0 1 getinterval bind pop", "[add op] exec")
	leaves(t, "[/add cvx /sub cvx] cvx dup 1 1 getinterval bind pop", "[add sub op] exec")
	leaves(t, "/add cvx 1 packedarray cvx bind", "[add op] packed exec")
	leaves(t, "/add {1} def {add} bind", "[add] exec")
	leaves(t, "[0 /add cvx] cvx dup dup 0 exch put bind 1 get", "add op")
	leaves(t, "() token ( %x) token", "false false")
	leaves(t, "(a b) cvx token", "( b) exec a true")
	leaves(t, "(x(1)) 1 3 getinterval token", "() (1) true")
	fails(t, "({) token", api.SyntaxError, "({)")
	fails(t, "(//none) token", api.Undefined, "(//none)")
	full := strings.Repeat("1 ", 98)
	leaves(t, full+"() token pop", strings.TrimSpace(full))
	leaves(t, strings.Repeat("1 ", 97)+"(2) token", strings.Repeat("1 ", 97)+"() 2 true")
	fails(t, full+"(1) token", api.StackOverflow, "["+full+"(1)]")
	fails(t, full+"(>) token", api.SyntaxError, "["+full+"(>)]")
}

func TestErrors(t *testing.T) {
	leaves(t, "1 {2 add none} stopped $error /newerror get $error /errorname get $error /command get $error /ostack get", "3 true true /undefined none [3]")
	leaves(t, "(>) cvx stopped $error /command get", "true null")
	leaves(t, "{2 {(a) add} repeat} stopped $error /command get", "(a) true add")
	leaves(t, "{100 {1} repeat 2} stopped $error /command get $error /ostack get length exch pop exch pop exch pop", "1")
	leaves(t, "errordict /undefined {pop 77} put none 5", "77 5")
	leaves(t, "errordict /undefined 8 put none 5", "none 8 5")
	leaves(t, "errordict /undefined {} put none 5", "none 5")
	leaves(t, "errordict /undefined (9) cvx put none 5", "none 9 5")
	leaves(t, "errordict /typecheck {handleerror pop pop 3} put", "")
	m := execute(t, "errordict /undefined undef none 5")
	if m.Status != api.MFailed || m.Err != api.Undefined || sketch.Show(m.State) != "" {
		t.Error(m.Status, m.Err, sketch.Show(m.State))
	}
	m = execute(t, "{1 add} stopped {handleerror} if")
	if m.Status != api.MDone || m.State.Out != "%%[ Error: stackunderflow; OffendingCommand: add ]%%\n" {
		t.Error(m.State.Out)
	}
	// An error while the execution stack is full
	m = execute(t, "/f {f 1} def f")
	if m.Status != api.MFailed || m.Err != api.ExecStackOverflow {
		t.Error(m.Status, m.Err)
	}
	leaves(t, "/f {f 1} def {f} stopped $error /errorname get $error /command get", "true /execstackoverflow f")
	// An error in the handler, which has the one frame more
	m = execute(t, "errordict /execstackoverflow {none 2} put errordict /undefined {pop none 1} put /f {f 1} def f")
	if m.Status != api.MFailed {
		t.Error(m.Status, m.Err)
	}
	// Loops push before they call: if there is no room, nothing is called.
	leaves(t, "{1 1 200 {} for} stopped $error /command get 3 -1 roll length", "true [] exec 100")
	leaves(t, "{2 1 100 {pop 7} for (ab) {7 7 7} forall} stopped pop $error /command get exch pop", "[7 7 7] exec")
	leaves(t, "{99 {1} repeat <</a 1>> {} forall} stopped $error /errorname get exch pop exch pop", "/stackoverflow")
	leaves(t, "{{"+strings.Repeat("1 ", 100)+"} stopped} stopped exch pop $error /command get", "true stopped op")
}

func TestRestore(t *testing.T) {
	leaves(t, "/s (abc) def save s 0 65 put s exch restore pop s", "(abc)")
	leaves(t, "/x 1 def save /x 2 def restore x", "1")
	leaves(t, "{save restore 5} exec", "5")
	leaves(t, "save {restore} exec", "")
	fails(t, "save [1 2] {pop dup restore} forall", api.InvalidRestore, "1 save 1 save")
	fails(t, "save (a) {pop dup restore} forall", api.InvalidRestore, "1 save 1 save")
	fails(t, "/p {pop dup restore} def save [[1] [2]] /p load forall", api.InvalidRestore, "1 save 1 save")
	leaves(t, "/p {pop dup restore} def save [[1]] /p load forall", "1 save")
	leaves(t, "/p {pop restore exit} def save [[1]] /p load forall", "")
	fails(t, "1 restore", api.TypeCheck, "1")
	leaves(t, "/t (1 exch restore 2) def save t cvx exec", "1 2")
}

// P41.5
func TestConsequences(t *testing.T) {
	r := rand.New(rand.NewSource(1))
	words := append(Names(), "1", "2", "-1", "0.5", "true", "(ab)", "/a", "{1 add}", "{dup}", "{exit}", "{stop}", "[1 2]", "{", "}", "a", "3", "5 dict", "$error", "errordict", "{2 copy}", "(1 2 add) cvx")
	for range 400 {
		program := ""
		for range 5 + r.Intn(60) {
			program += words[r.Intn(len(words))] + " "
		}
		m := Start(base(t), program)
		whole, rest := Run(m, 300)
		k := r.Intn(300)
		first, left := Run(m, k)
		second, left2 := Run(first, 300-k+left)
		if !reflect.DeepEqual(whole, second) || rest != left2 {
			t.Fatal("split fuel", program)
		}
		if e := heap.Check(whole.State.Heap); e != api.OK || len(whole.State.Ops) > api.MaxOps || len(whole.Exec) > api.MaxExec+1 {
			t.Fatal(program, e)
		}
	}
	// R1: machines that are not valid
	for kind := -1; kind < 10; kind++ {
		for _, body := range []api.Obj{{}, {Kind: 99, Exec: true}, {Kind: api.KArray, Exec: true, Ref: -5, Len: 3}, {Kind: api.KFile, Exec: true, Ref: 0}, {Kind: api.KString, Exec: true, Len: 9}, {Kind: api.KName, Exec: true, Name: "x"}, {Kind: api.KOperator, Exec: true, Name: "restore"}} {
			for _, f := range []api.Frame{{Kind: kind, Body: body, At: -1, N: -5, List: []api.Obj{{}}, Pairs: true}, {Kind: kind, Body: body, At: 1 << 60, N: 1 << 62, Step: 1 << 62, End: 1<<63 - 1, Text: "x"}} {
				m := api.Machine{Exec: []api.Frame{f}}
				Run(m, 20)
				m.State = base(t)
				Run(m, 20)
			}
		}
	}
}
