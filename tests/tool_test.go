package tests

import (
	"math/rand"
	"slices"
	"strconv"
	"strings"
	"testing"

	"loop.example/s01319/impl"
)

// toolHead has the heaplets and registers of mixedSig.
const toolHead = "heap 16 public read\nheap 32 secret write\nheap 8 public write\nheap 9 secret read\n" +
	"reg 0 ptr 0 0 0\nreg 1 ptr 1 0 0\nreg 2 7 public\nreg 3 255 secret\nreg 4 any public\nreg 5 any secret\nreg 6 ptr 2 0 0\nreg 7 3 public\n"

// wantThroughTool asks that a text is let through in both dialects, and that the text read back is this program, without a fault and without a secret shown.
func wantThroughTool(t *testing.T, name, body, masm string) {
	t.Helper()
	random := rand.New(rand.NewSource(57))
	sig := mixedSig()
	for _, dialect := range bothDialects {
		text := "dialect " + []string{"gas", "masm"}[dialect] + "\n" + toolHead + body
		got := impl.Tool([]byte(text))
		if slow := slowTool(text); got.Stage != impl.ToolOk || !sameTool(got, slow) {
			t.Fatalf("%s: %q:\n got %+v\nwant %+v", name, text, got, slow)
		}
		read := impl.ReadAsm(got.Text, dialect)
		if back := string(impl.PrintAsm(read.Prog, impl.Masm)); read.Err != impl.ReadOk || back != masm {
			t.Errorf("%s: %q is read as %q (error %d)", name, got.Text, back, read.Err)
		}
		source := impl.ParseSource([]byte(text)).Source
		stmts := impl.Inline(source.Procs)
		if !sameSig(source.Sig, sig) || !slices.Equal(read.Prog, impl.Lower(stmts)) {
			t.Errorf("%s: not the lowered statements", name)
		}
		end := impl.Check(sig, stmts).Abs
		for range 5 {
			m := randomFitting(random, sig)
			wantNoShow(t, sig, read.Prog, end, m, twinOf(random, sig, m), 100)
		}
	}
}

func TestToolLetsThrough(t *testing.T) {
	wantThroughTool(t, "nothing", "proc\n", "halt\n")
	wantThroughTool(t, "one", "proc\nadds r5, r5, r3\nadc r3, r3, r3\n", "adds r5, r5, r3\nadc r3, r3, r3\nhalt\n")
	wantThroughTool(t, "an if", "proc\ncmpi r2, 3\nif c\nldbx r4, [r0 + r2] ; h0\nelse\nstb [r6 + 7], r2 ; h2\nend\n",
		"cmpi r2, 3\njnc L4\nldbx r4, [r0 + r2] ; h0\njmp L5\nL4:\nstb [r6 + 7], r2 ; h2\nL5:\nhalt\n")
	wantThroughTool(t, "a loop", "proc\ncmpi r2, 0\nwhile nz\nstb [r1 + 31], r3 ; h1\naddi r2, r2, -1\ncmpi r2, 0\nend\n",
		"cmpi r2, 0\nL1:\njz L6\nstb [r1 + 31], r3 ; h1\naddi r2, r2, -1\ncmpi r2, 0\njmp L1\nL6:\nhalt\n")
	wantThroughTool(t, "calls", "proc\ncall 2\ncall 1\nproc\ncall 2\nmov r5, r3\nproc\nldq r5, [r1 + 24] ; h1\n",
		"ldq r5, [r1 + 24] ; h1\nldq r5, [r1 + 24] ; h1\nmov r5, r3\nhalt\n")
	wantThroughTool(t, "calls in blocks", "proc\ncmpi r7, 1\nif z\ncall 1\nelse\ncall 1\ncall 1\nend\nwhile c\ncall 1\nend\nproc\ncmpi r7, 0\n",
		"cmpi r7, 1\njnz L4\ncmpi r7, 0\njmp L6\nL4:\ncmpi r7, 0\ncmpi r7, 0\nL6:\njnc L9\ncmpi r7, 0\njmp L6\nL9:\nhalt\n")
	wantThroughTool(t, "a select by a secret", "proc\ncmp r3, r5\nselc r5, r3, r2\nselz r3, r5, r5\nstq [r1 + 0], r5 ; h1\n",
		"cmp r3, r5\nselc r5, r3, r2\nselz r3, r5, r5\nstq [r1 + 0], r5 ; h1\nhalt\n")
	// What no call reaches is not checked, nor is it in the text.
	wantThroughTool(t, "a wrong procedure that is not called", "proc\nmov r5, r3\nproc\nif z\nend\ndiv r3, r3, r3\n", "mov r5, r3\nhalt\n")
	// A public division shows its time, the same on both machines.
	wantThroughTool(t, "a public division", "proc\ndiv r4, r4, r2\n", "div r4, r4, r2\nhalt\n")
}

// wantStage asks for a rejection in both dialects.
func wantStage(t *testing.T, name, rest string, want impl.ToolRes) {
	t.Helper()
	wantTool(t, name, "dialect gas\n"+rest, want)
	wantTool(t, name, "dialect masm\n"+rest, want)
}

func TestToolStages(t *testing.T) {
	at := func(stage, err, proc, at int64) impl.ToolRes {
		return impl.ToolRes{Stage: stage, Err: err, Proc: proc, At: at}
	}
	wantStage(t, "read", toolHead+"proc\nmov r1, r8\n", at(1, 0, 0, 15))
	wantStage(t, "read, at the end", toolHead, at(1, 0, 0, 14))
	wantStage(t, "unit: size", strings.Repeat("proc\n", 21), at(2, impl.UnitSize, 0, 0))
	wantStage(t, "unit: size of a procedure", "proc\nproc\nproc\n"+strings.Repeat("mov r1, r2\n", 501), at(2, impl.UnitSize, 2, 0))
	wantStage(t, "unit: statement", "proc\nmov r1, r2\nproc\nmov r1, r2\nmov r1, r2\ncall 2\n", at(2, impl.UnitStmt, 1, 2))
	wantStage(t, "unit: depth", "proc\nproc\ncmpi r1, 0\n"+strings.Repeat("while z\n", 17)+strings.Repeat("end\n", 17), at(2, impl.UnitDepth, 1, 17))
	wantStage(t, "unit: a call of itself", "proc\nproc\nmov r1, r2\ncall 1\nproc\n", at(2, impl.UnitRecursive, 1, 1))
	wantStage(t, "unit: a call back", "proc\nproc\nif z\ncall 0\nend\nproc\n", at(2, impl.UnitRecursive, 1, 1))
	wantStage(t, "unit: flat", "proc\n"+strings.Repeat("call 1\n", 4)+"proc\n"+strings.Repeat("mov r1, r2\n", 500), at(2, impl.UnitFlat, 0, 0))
	for name, line := range map[string]string{"a size of 0": "heap 0 public read", "a size too large": "heap 4097 public read", "a Max too large": "reg 1 1099511627777 public", "no such heaplet": "reg 1 ptr 0 0 0", "a heaplet too far": "heap 8 public read\nreg 1 ptr 1 0 0", "Lo above Hi": "heap 8 public read\nreg 1 ptr 0 1 0", "Lo too small": "heap 8 public read\nreg 1 ptr 0 -1099511627777 0", "Hi too large": "heap 8 public read\nreg 1 ptr 0 0 1099511627777"} {
		wantStage(t, "sig: "+name, line+"\nproc\nmov r1, r2\n", at(3, 0, 0, 0))
	}
	rows := []struct {
		err  int64
		body string
	}{
		{impl.CkFlag, "if z\nend\n"},
		{impl.CkFlag, "while nc\nend\n"},
		{impl.CkFlag, "adc r2, r2, r2\n"},
		{impl.CkNotPtr, "ldb r4, [r2 + 0] ; h0\n"},
		{impl.CkHeap, "ldb r4, [r1 + 0] ; h0\n"},
		{impl.CkIndex, "ldbx r4, [r1 + r3] ; h1\n"},
		{impl.CkBounds, "ldq r4, [r0 + 9] ; h0\n"},
		{impl.CkReadOnly, "stb [r0 + 0], r2 ; h0\n"},
		{impl.CkSecretStore, "stb [r6 + 0], r3 ; h2\n"},
		{impl.CkTiming, "div r3, r2, r3\n"},
	}
	for _, row := range rows {
		wantStage(t, "test", toolHead+"proc\n"+row.body, at(4, row.err, 0, 0))
		wantStage(t, "test, behind others", toolHead+"proc\nmov r4, r2\nmovi r4, 0\n"+row.body, at(4, row.err, 0, 2))
		wantStage(t, "test, in a called procedure", toolHead+"proc\nmov r4, r2\ncall 1\nproc\nmovi r4, 0\n"+row.body, at(4, row.err, 0, 2))
	}
	wantStage(t, "test: a secret flag", toolHead+"proc\ncmpi r3, 0\nif z\nend\n", at(4, impl.CkSecretFlag, 0, 1))
	wantStage(t, "test: rounds", toolHead+"proc\ncmpi r2, 0\nwhile z\naddi r4, r2, 1\naddi r2, r2, 1\nend\n", at(4, impl.CkFix, 0, 1))
}

// Of faults of two stages, the earlier stage's is told, wherever they stand.
func TestToolFirstStage(t *testing.T) {
	const read, unit, sig, test = "halt\n", "call 0\n", "reg 2 ptr 7 0 0\n", "div r3, r3, r3\n"
	wantStage(t, "read and unit", "proc\n"+unit+read, impl.ToolRes{Stage: 1, At: 4})
	wantStage(t, "read and sig", sig+"proc\n"+read, impl.ToolRes{Stage: 1, At: 4})
	wantStage(t, "read and test", "proc\n"+test+read, impl.ToolRes{Stage: 1, At: 4})
	wantStage(t, "unit and sig", sig+"proc\nmov r1, r2\n"+unit, impl.ToolRes{Stage: 2, Err: impl.UnitRecursive, At: 1})
	wantStage(t, "unit and test", "proc\n"+test+unit, impl.ToolRes{Stage: 2, Err: impl.UnitRecursive, At: 1})
	wantStage(t, "unit, of a procedure that is not called, and test", "proc\n"+test+"proc\n"+unit, impl.ToolRes{Stage: 2, Err: impl.UnitRecursive, Proc: 1})
	wantStage(t, "sig and test", sig+"proc\n"+test, impl.ToolRes{Stage: 3})
	wantStage(t, "all", sig+"proc\n"+test+unit+read, impl.ToolRes{Stage: 1, At: 6})
	wantStage(t, "all but read", sig+"proc\n"+test+unit, impl.ToolRes{Stage: 2, Err: impl.UnitRecursive, At: 1})
	wantStage(t, "test twice", "proc\n"+test+"if z\nend\n", impl.ToolRes{Stage: 4, Err: impl.CkTiming})
	wantTool(t, "too long, and all of it wrong", strings.Repeat("halt\n", 20001), impl.ToolRes{Stage: 1, At: -1})
}

// At is a place in the inlined list: calls in front of it count as what they stand for.
func TestToolInlinedPlaces(t *testing.T) {
	wrong := func(name, body string, err, at int64) {
		t.Helper()
		wantStage(t, name, toolHead+body, impl.ToolRes{Stage: impl.ToolTest, Err: err, At: at})
	}
	const bad = "stb [r6 + 0], r3 ; h2\n"
	wrong("behind a call of three", "proc\ncall 1\n"+bad+"proc\nmov r4, r2\nmov r4, r2\nmov r4, r2\n", impl.CkSecretStore, 3)
	wrong("behind a call of nothing", "proc\ncall 1\ncall 1\n"+bad+"proc\n", impl.CkSecretStore, 0)
	wrong("in the second of two procedures", "proc\ncall 1\nmov r4, r2\ncall 2\nproc\nmov r4, r2\nmov r4, r2\nproc\nmov r4, r2\n"+bad, impl.CkSecretStore, 4)
	wrong("in a procedure of a procedure", "proc\nmov r4, r2\ncall 1\nproc\nmov r4, r2\ncall 2\nproc\nmov r4, r2\n"+bad, impl.CkSecretStore, 3)
	wrong("in an if, in its else", "proc\ncmpi r2, 0\nif z\ncall 1\nelse\ncall 1\n"+bad+"end\nproc\nmov r4, r2\nmov r4, r2\n", impl.CkSecretStore, 6)
	wrong("in a loop of a called procedure", "proc\ncmpi r2, 0\ncall 1\nproc\nwhile z\ncall 2\nend\nproc\nmov r4, r2\n"+bad, impl.CkSecretStore, 3)
	// The second call comes with a number in r0; the procedure by itself is right.
	const late = "proc\ncall 1\nmovi r0, 5\ncall 1\nproc\nmov r4, r2\nldb r4, [r0 + 0] ; h0\n"
	wrong("only where it is called from", late, impl.CkNotPtr, 4)
	wantThroughTool(t, "called from elsewhere", strings.Replace(late, "movi r0, 5", "addi r0, r0, 5", 1), "mov r4, r2\nldb r4, [r0 + 0] ; h0\naddi r0, r0, 5\nmov r4, r2\nldb r4, [r0 + 0] ; h0\nhalt\n")
	wrong("no flag where it is called from", "proc\ncall 1\ncmpi r2, 0\ncall 1\nproc\nif z\nend\n", impl.CkFlag, 0)
	wrong("a secret flag where it is called from", "proc\ncmpi r2, 0\ncall 1\ncmpi r3, 0\ncall 1\nproc\nif z\nmov r4, r2\nend\n", impl.CkSecretFlag, 4)
	wrong("a secret where it is called from", "proc\ncall 1\nmov r2, r3\ncall 1\nproc\nstb [r6 + 0], r2 ; h2\n", impl.CkSecretStore, 2)
	wrong("a secret in the second round", "proc\ncmpi r7, 0\nwhile z\ncall 1\nmov r2, r3\nend\nproc\nstb [r6 + 0], r2 ; h2\n", impl.CkSecretStore, 2)
	wrong("too far only where it is called from", "proc\ncall 1\ncall 1\ncall 1\nproc\nldq r4, [r0 + 0] ; h0\naddi r0, r0, 8\n", impl.CkBounds, 4)
}

// Promises 9 to 11 and 13 of sources of all sorts: what Tool answers is what the slow reading does, and its text shows nothing.
func TestToolShowsNoSecret(t *testing.T) {
	random := rand.New(rand.NewSource(58))
	stages, errs := [5]int{}, [13]int{}
	halted, called := 0, 0
	for range 6000 {
		s := randomSource(random)
		text := slowSourceText(s)
		got, want := impl.Tool([]byte(text)), slowTool(text)
		if !sameTool(got, want) {
			t.Fatalf("%q:\n got %+v\nwant %+v", text, got, want)
		}
		stages[got.Stage]++
		if got.Stage == impl.ToolTest {
			errs[got.Err]++
		}
		if got.Stage != impl.ToolOk {
			continue
		}
		if strings.Contains(text, "call") {
			called++
		}
		read := impl.ReadAsm(got.Text, s.Dialect)
		stmts := impl.Inline(s.Procs)
		if read.Err != impl.ReadOk || !slices.Equal(read.Prog, impl.Lower(stmts)) {
			t.Fatalf("%q is read as %+v", got.Text, read)
		}
		m := randomFitting(random, s.Sig)
		if wantNoShow(t, s.Sig, read.Prog, impl.Check(s.Sig, stmts).Abs, m, twinOf(random, s.Sig, m), 80) {
			halted++
		}
	}
	if stages[impl.ToolOk] < 700 || stages[impl.ToolTest] < 700 || halted < 500 || called < 200 {
		t.Errorf("stages %v, %d halted, %d with calls", stages, halted, called)
	}
	for err := int64(impl.CkFlag); err <= impl.CkFix; err++ {
		if errs[err] < 5 {
			t.Errorf("Err %d came %d times only: %v", err, errs[err], errs)
		}
	}
}

// wantOneAnswer asks for promise 13 of a text.
func wantOneAnswer(t *testing.T, text []byte) impl.ToolRes {
	t.Helper()
	var got impl.ToolRes
	if p := mayPanic(func() { got = impl.Tool(text) }); p != nil {
		t.Fatalf("%q: panic: %v", text, p)
	}
	bare := got.Err == 0 && got.Proc == 0 && got.At == 0
	ok := false
	switch got.Stage {
	case impl.ToolOk:
		ok = bare && len(got.Text) > 0
	case impl.ToolRead:
		ok = got.Err == 0 && got.Proc == 0 && (got.At > 0 || got.At == -1) && len(got.Text) == 0
	case impl.ToolUnit:
		ok = got.Err >= impl.UnitSize && got.Err <= impl.UnitFlat && len(got.Text) == 0
	case impl.ToolSig:
		ok = bare && len(got.Text) == 0
	case impl.ToolTest:
		ok = got.Err >= impl.CkFlag && got.Err <= impl.CkFix && got.Proc == 0 && len(got.Text) == 0
	}
	if !ok {
		t.Fatalf("%q: %+v", text, got)
	}
	return got
}

func TestToolAnswersEveryText(t *testing.T) {
	random := rand.New(rand.NewSource(59))
	stages := [5]int{}
	for range 15000 {
		text := wornSource(random, slowSourceText(randomSource(random)))
		got := wantOneAnswer(t, []byte(text))
		stages[got.Stage]++
		if random.Intn(4) == 0 && !sameTool(got, slowTool(text)) {
			t.Fatalf("%q: %+v, not %+v", text, got, slowTool(text))
		}
	}
	for stage, count := range stages[:3] {
		if count < 50 {
			t.Errorf("stage %d came %d times only: %v", stage, count, stages)
		}
	}
	words := strings.Fields("dialect gas masm heap reg proc if else end while call z nz c nc any ptr public secret read write 0 1 8 -1 mov r1, r2 movi halt")
	for range 20000 {
		var text []byte
		for range random.Intn(20) {
			text = append(text, words[random.Intn(len(words))]...)
			text = append(text, " \n\n\n  \r\x00\xff"[random.Intn(9)])
		}
		if random.Intn(2) == 0 {
			text = append([]byte("dialect gas\nproc\n"), text...)
		}
		wantOneAnswer(t, text)
	}
	for range 5000 {
		text := make([]byte, random.Intn(60))
		random.Read(text)
		wantOneAnswer(t, text)
	}
	wantOneAnswer(t, nil)
	wantOneAnswer(t, make([]byte, 100000))
	wantOneAnswer(t, make([]byte, 300000))
}

// Every beginning of a text is answered, those that end with a line as the document says.
func TestToolBeginnings(t *testing.T) {
	for size := range len(everyForm) {
		text := everyForm[:size]
		got := wantOneAnswer(t, []byte(text))
		if want := slowTool(text); !sameTool(got, want) {
			t.Errorf("%q: %+v, not %+v", text, got, want)
		}
	}
}

// The longest programs: their text is read back whole.
func TestToolLongest(t *testing.T) {
	body := "proc\n" + strings.Repeat("call 1\n", 3) + strings.Repeat("ldb r4, [r0 + 1000000] ; h0\n", 497) + "proc\n" + strings.Repeat("ldb r4, [r0 + 1000000] ; h0\n", 500)
	for _, dialect := range []string{"gas", "masm"} {
		text := "dialect " + dialect + "\nheap 1 public read\nreg 0 ptr 0 -1000000 -1000000\n" + body
		got := wantOneAnswer(t, []byte(text))
		number := int64(slices.Index([]string{"gas", "masm"}, dialect))
		read := impl.ReadAsm(got.Text, number)
		if got.Stage != impl.ToolOk || read.Err != impl.ReadOk || len(read.Prog) != 1998 {
			t.Errorf("%+v, %d instructions", got.Stage, len(read.Prog))
		}
	}
	// Calls of calls make more than can be written, and are told at once.
	tall := "dialect gas\n"
	for i := range 19 {
		tall += "proc\n" + strings.Repeat("call "+strconv.Itoa(i+1)+"\n", 500)
	}
	tall += "proc\nmov r1, r2\n"
	if got := wantOneAnswer(t, []byte(tall)); !sameTool(got, impl.ToolRes{Stage: impl.ToolUnit, Err: impl.UnitFlat}) {
		t.Errorf("%+v", got)
	}
	// Blocks as deep as calls make them.
	deep := "dialect gas\nreg 0 1 public\n"
	for i := range 20 {
		deep += "proc\ncmpi r0, 0\n" + strings.Repeat("if z\n", 16)
		if i < 19 {
			deep += "call " + strconv.Itoa(i+1) + "\n"
		}
		deep += strings.Repeat("end\n", 16)
	}
	got := wantOneAnswer(t, []byte(deep))
	if read := impl.ReadAsm(got.Text, impl.Gas); got.Stage != impl.ToolOk || len(read.Prog) != 20*33+1 {
		t.Errorf("%+v", got)
	}
}

func TestToolKeepsItsArgument(t *testing.T) {
	for _, body := range []string{"proc\nmov r4, r2\n", "proc\nhalt\n", "proc\ncall 0\n", "proc\nif z\nend\n"} {
		text := []byte("dialect masm\n" + toolHead + body)
		old := slices.Clone(text)
		got := impl.Tool(text)
		again := string(got.Text)
		fill(got.Text, 'x')
		if !slices.Equal(text, old) {
			t.Fatalf("the text is changed")
		}
		got = impl.Tool(text)
		fill(text, 'x')
		if string(got.Text) != again {
			t.Fatalf("the answer shares memory with the text")
		}
	}
}

func TestReadmeTool(t *testing.T) {
	text := []byte(`dialect gas
heap 16 secret read
heap 16 secret write
reg 0 ptr 0 0 0
reg 1 ptr 1 0 0
proc
movi r2, 0
movi r3, 16
cmpi r3, 0
while nz
call 1
addi r3, r3, -1
cmpi r3, 0
end
proc
andi r2, r2, 15
ldbx r4, [r0 + r2] ; h0
stbx [r1 + r2], r4 ; h1
addi r2, r2, 1
`)
	res := impl.Tool(text)
	read := impl.ReadAsm(res.Text, impl.Gas)
	if res.Stage != impl.ToolOk || len(read.Prog) != 12 {
		t.Fatalf("%+v", res)
	}
	m := impl.Mach{Regs: []uint64{100, 200, 0, 0, 0, 0, 0, 0}, Heaps: []impl.Heap{{Base: 100, Data: []byte("sixteen bytes ..")}, {Base: 200, Write: true, Data: make([]byte, 16)}}}
	end := impl.RunMach(read.Prog, m, 1000)
	if end.Status != impl.Halted || string(end.Heaps[1].Data) != "sixteen bytes .." {
		t.Errorf("%s", showMach(end))
	}
	wrong := impl.Tool([]byte("dialect gas\nproc\ncmpi r0, 0\nif z\nmovi r1, 1\nend\n"))
	if !sameTool(wrong, impl.ToolRes{Stage: impl.ToolTest, Err: impl.CkSecretFlag, At: 1}) {
		t.Errorf("%+v", wrong)
	}
	source := impl.ParseSource(text).Source
	if back := impl.ParseSource(impl.PrintSource(source)); back.Line != 0 || !sameSource(back.Source, source) {
		t.Errorf("%+v", back)
	}
}

// leakHead is toolHead with a secret that could be an index.
var leakHead = strings.Replace(toolHead, "reg 3 255 secret", "reg 3 7 secret", 1)

// shows tells whether two machines with SamePublic are found on which an onlooker sees a program do other things.
func shows(random *rand.Rand, sig impl.Sig, prog []impl.Ins) bool {
	for range 300 {
		m := randomFitting(random, sig)
		n := twinOf(random, sig, m)
		a, b := impl.RunMach(prog, m, 200), impl.RunMach(prog, n, 200)
		if !impl.SamePublic(sig, m, n) {
			return false
		}
		if !slices.Equal(a.Obs, b.Obs) || !sameHeap(a.Heaps[0], b.Heaps[0]) || !sameHeap(a.Heaps[2], b.Heaps[2]) {
			return true
		}
	}
	return false
}

// Statements that show a secret when they are run are not let through.
func TestToolRefusesLeaks(t *testing.T) {
	random := rand.New(rand.NewSource(60))
	const put = "stb [r6 + 0], r4 ; h2\n"
	rows := []struct {
		body string
		err  int64
		at   int64
	}{
		{"ldbx r4, [r1 + r3] ; h1\n", impl.CkIndex, 0},
		{"stbx [r1 + r3], r2 ; h1\n", impl.CkIndex, 0},
		{"add r1, r1, r3\nldb r4, [r1 + 0] ; h1\n", impl.CkNotPtr, 1},
		{"add r1, r3, r1\nstb [r1 + 0], r2 ; h1\n", impl.CkNotPtr, 1},
		{"cmpi r3, 3\nif c\nend\n", impl.CkSecretFlag, 1},
		{"cmp r2, r3\nif nz\nmovi r4, 0\nend\n", impl.CkSecretFlag, 1},
		{"cmp r3, r2\nwhile c\naddi r3, r3, 1\ncmp r3, r2\nend\n", impl.CkSecretFlag, 1},
		{"cmpi r7, 9\nwhile c\naddi r7, r7, 2\ncmp r7, r3\nend\n", impl.CkSecretFlag, 1},
		{"adds r4, r5, r2\nif c\nend\n", impl.CkSecretFlag, 1},
		{"subs r4, r2, r3\nif nc\nend\n", impl.CkSecretFlag, 1},
		{"div r4, r3, r2\n", impl.CkTiming, 0},
		{"div r4, r2, r3\n", impl.CkTiming, 0},
		{"stb [r6 + 0], r3 ; h2\n", impl.CkSecretStore, 0},
		{"ldb r4, [r1 + 3] ; h1\n" + put, impl.CkSecretStore, 1},
		{"ldq r4, [r1 + 3] ; h1\n" + put, impl.CkSecretStore, 1},
		{"ldbx r4, [r1 + r2] ; h1\n" + put, impl.CkSecretStore, 1},
		{"ldqx r4, [r1 + r2] ; h1\n" + put, impl.CkSecretStore, 1},
		{"stb [r1 + 1], r3 ; h1\nldb r4, [r1 + 1] ; h1\n" + put, impl.CkSecretStore, 2},
		{"cmpi r3, 3\nselc r4, r2, r7\nldbx r4, [r0 + r4] ; h0\n", impl.CkIndex, 2},
		{"cmpi r3, 3\nselz r4, r2, r7\n" + put, impl.CkSecretStore, 2},
		{"cmpi r2, 3\nselc r4, r3, r7\n" + put, impl.CkSecretStore, 2},
		{"cmpi r2, 3\nselc r4, r7, r3\n" + put, impl.CkSecretStore, 2},
		{"addi r4, r0, 1\ncmpi r3, 3\nselc r4, r4, r0\nldb r4, [r4 + 0] ; h0\n", impl.CkNotPtr, 3},
		{"addi r4, r0, 1\ncmpi r3, 3\nselc r4, r4, r0\nsub r4, r4, r0\n" + put, impl.CkSecretStore, 4},
		{"movi r4, -1\nadds r4, r4, r3\nmovi r4, 0\nadc r4, r4, r4\n" + put, impl.CkSecretStore, 4},
		{"movi r4, -1\nadds r4, r4, r3\nmovi r4, 0\nadc r4, r4, r4\nif z\nend\n", impl.CkSecretFlag, 4},
		{"movi r4, 0\nxor r4, r4, r3\n" + put, impl.CkSecretStore, 2},
		{"cmpi r2, 3\nif c\nmov r4, r3\nelse\nmovi r4, 1\nend\n" + put, impl.CkSecretStore, 4},
		{"cmpi r2, 3\nif c\nmovi r4, 1\nelse\nmov r4, r3\nend\n" + put, impl.CkSecretStore, 4},
		{"cmpi r2, 3\nif c\ncmpi r3, 2\nend\nif c\nend\n", impl.CkSecretFlag, 3},
		{"cmpi r2, 3\nif c\nelse\ncmpi r3, 2\nend\nif z\nend\n", impl.CkSecretFlag, 3},
		{"movi r4, 0\nmovi r2, 2\ncmpi r2, 0\nwhile nz\n" + put + "mov r4, r3\naddi r2, r2, -1\ncmpi r2, 0\nend\n", impl.CkSecretStore, 4},
		{"movi r4, 0\nmovi r2, 2\ncmpi r2, 0\nwhile nz\nmov r4, r3\naddi r2, r2, -1\ncmpi r2, 0\nend\n" + put, impl.CkSecretStore, 7},
		{"call 1\n" + put + "proc\nmov r4, r5\n", impl.CkSecretStore, 1},
		{"call 1\nproc\ncmp r5, r3\nif c\nend\n", impl.CkSecretFlag, 1},
	}
	for _, row := range rows {
		text := leakHead + "proc\n" + row.body
		wantStage(t, "a leak", text, impl.ToolRes{Stage: impl.ToolTest, Err: row.err, At: row.at})
		source := impl.ParseSource([]byte("dialect gas\n" + text)).Source
		if !shows(random, source.Sig, impl.Lower(impl.Inline(source.Procs))) {
			t.Errorf("%q shows nothing", row.body)
		}
	}
}

// Statements that fault on some machine that fits are not let through.
func TestToolRefusesFaults(t *testing.T) {
	random := rand.New(rand.NewSource(61))
	rows := []struct {
		body string
		err  int64
		at   int64
	}{
		{"if z\nend\n", impl.CkFlag, 0},
		{"while nc\nend\n", impl.CkFlag, 0},
		{"adc r4, r2, r2\n", impl.CkFlag, 0},
		{"selz r4, r2, r2\n", impl.CkFlag, 0},
		{"selc r4, r2, r2\n", impl.CkFlag, 0},
		{"ldb r4, [r0 + 16] ; h0\n", impl.CkBounds, 0},
		{"ldb r4, [r0 + -1] ; h0\n", impl.CkBounds, 0},
		{"ldq r4, [r0 + 9] ; h0\n", impl.CkBounds, 0},
		{"stq [r6 + 1], r2 ; h2\n", impl.CkBounds, 0},
		{"ldqx r4, [r6 + r2] ; h2\n", impl.CkBounds, 0},
		{"addi r4, r0, 9\nldbx r4, [r4 + r2] ; h0\n", impl.CkBounds, 1},
		{"add r4, r0, r2\nldq r4, [r4 + 2] ; h0\n", impl.CkBounds, 1},
		{"ldbx r4, [r0 + r4] ; h0\n", impl.CkIndex, 0},
		{"ldb r4, [r2 + 0] ; h0\n", impl.CkNotPtr, 0},
		{"ldb r4, [r1 + 0] ; h0\n", impl.CkHeap, 0},
		{"ldb r4, [r0 + 0] ; h7\n", impl.CkHeap, 0},
		{"stb [r0 + 0], r2 ; h0\n", impl.CkReadOnly, 0},
		{"cmpi r2, 3\nif c\nmov r4, r0\nelse\naddi r4, r0, 9\nend\nldq r4, [r4 + 0] ; h0\n", impl.CkBounds, 4},
		{"cmpi r2, 3\nif c\nmov r4, r0\nelse\nmov r4, r1\nend\nldb r4, [r4 + 0] ; h0\n", impl.CkNotPtr, 4},
		{"movi r3, 17\ncmpi r3, 0\nwhile nz\nldb r4, [r0 + 0] ; h0\naddi r0, r0, 1\naddi r3, r3, -1\ncmpi r3, 0\nend\n", impl.CkBounds, 3},
	}
	for _, row := range rows {
		text := leakHead + "proc\n" + row.body
		wantStage(t, "a fault", text, impl.ToolRes{Stage: impl.ToolTest, Err: row.err, At: row.at})
		source := impl.ParseSource([]byte("dialect gas\n" + text)).Source
		prog := impl.Lower(impl.Inline(source.Procs))
		faults := false
		for try := 0; try < 300 && !faults; try++ {
			faults = impl.RunMach(prog, randomFitting(random, source.Sig), 200).Status == impl.Faulted
		}
		if !faults {
			t.Errorf("%q does not fault", row.body)
		}
	}
}
