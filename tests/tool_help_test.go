package tests

import (
	"math/rand"
	"regexp"
	"slices"
	"strconv"
	"strings"
	"testing"

	"loop.example/s01319/impl"
)

func cloneSource(s impl.Source) impl.Source {
	return impl.Source{Dialect: s.Dialect, Sig: cloneSig(s.Sig), Procs: cloneUnit(s.Procs)}
}

func sameSource(a, b impl.Source) bool {
	return a.Dialect == b.Dialect && sameSig(a.Sig, b.Sig) &&
		slices.EqualFunc(a.Procs, b.Procs, func(p, q impl.Proc) bool { return slices.Equal(p.Body, q.Body) })
}

func sameSourceRes(a, b impl.SourceRes) bool {
	return a.Line == b.Line && sameSource(a.Source, b.Source)
}

func sameTool(a, b impl.ToolRes) bool {
	return a.Stage == b.Stage && a.Err == b.Err && a.Proc == b.Proc && a.At == b.At && string(a.Text) == string(b.Text)
}

// shorten keeps a message about a long text short.
func shorten(text string) string {
	if len(text) > 600 {
		return text[:600] + ".."
	}
	return text
}

// anyRegs is what eight registers are without a line.
func anyRegs() []impl.Val {
	regs := make([]impl.Val, 8)
	fill(regs, hidden(-1))
	return regs
}

// wantSource asks for a text's source, and that the slow reading is the same.
func wantSource(t *testing.T, name, text string, want impl.Source) {
	t.Helper()
	if got := impl.ParseSource([]byte(text)); !sameSourceRes(got, impl.SourceRes{Source: want}) {
		t.Errorf("%s: %q:\n got %+v\nwant %+v", name, shorten(text), got, want)
	}
	if slow := slowSource(text); !sameSourceRes(slow, impl.SourceRes{Source: want}) {
		t.Errorf("%s: %q: the slow reading is %+v", name, shorten(text), slow)
	}
}

// wantLine asks for the line at which a text is no source, of ParseSource, the slow reading and Tool.
func wantLine(t *testing.T, name, text string, line int64) {
	t.Helper()
	if got := impl.ParseSource([]byte(text)); !sameSourceRes(got, impl.SourceRes{Line: line}) {
		t.Errorf("%s: %q: %+v, not line %d", name, shorten(text), got, line)
	}
	if slow := slowSource(text); !sameSourceRes(slow, impl.SourceRes{Line: line}) {
		t.Errorf("%s: %q: the slow reading is %+v, not line %d", name, shorten(text), slow, line)
	}
	if got := impl.Tool([]byte(text)); !sameTool(got, impl.ToolRes{Stage: impl.ToolRead, At: line}) {
		t.Errorf("%s: %q: the tool answers %+v, not line %d", name, shorten(text), got, line)
	}
}

// wantTool asks for an answer of Tool, and that the slow reading is the same.
func wantTool(t *testing.T, name, text string, want impl.ToolRes) {
	t.Helper()
	if got := impl.Tool([]byte(text)); !sameTool(got, want) {
		t.Errorf("%s: %q:\n got %+v\nwant %+v", name, shorten(text), got, want)
	}
	if slow := slowTool(text); !sameTool(slow, want) {
		t.Errorf("%s: %q: the slow reading is %+v, not %+v", name, shorten(text), slow, want)
	}
}

// sourceForm is a line's form; letter is its kind: D, H, R and P as the text's parts, I and W open a block, E is its middle, N its end, and S is any other statement.
type sourceForm struct {
	letter  string
	pattern *regexp.Regexp
}

var sourceForms = makeSourceForms()

func makeSourceForms() []sourceForm {
	const plain, signed = `(0|[1-9][0-9]{0,12})`, `(0|-?[1-9][0-9]{0,12})`
	var forms []sourceForm
	for _, row := range [][2]string{
		{"D", `dialect (gas|masm)`},
		{"H", `heap ` + plain + ` (public|secret) (read|write)`},
		{"R", `reg ([0-7]) (any|0|[1-9][0-9]{0,12}) (public|secret)`},
		{"R", `reg ([0-7]) (ptr) ` + plain + ` ` + signed + ` ` + signed},
		{"P", `proc`},
		{"I", `if (z|nz|c|nc)`},
		{"W", `while (z|nz|c|nc)`},
		{"E", `else`},
		{"N", `end`},
		{"S", `call ` + plain},
	} {
		forms = append(forms, sourceForm{row[0], regexp.MustCompile(`\A` + row[1] + `\z`)})
	}
	return forms
}

// sourceLine is a line of a source text, told apart.
type sourceLine struct {
	letter string
	fields []string
	ins    impl.Ins
}

func slowSourceLine(line string) sourceLine {
	for _, f := range sourceForms {
		if found := f.pattern.FindStringSubmatch(line); found != nil {
			return sourceLine{letter: f.letter, fields: found[1:]}
		}
	}
	if x, ok := slowLine(line, masmForms); ok && x.Op <= 28 {
		return sourceLine{letter: "S", ins: x}
	}
	return sourceLine{letter: "?"}
}

var (
	closedBlock = regexp.MustCompile(`IS*(ES*)?N|WS*N`)
	beginning   = regexp.MustCompile(`\A(DH{0,8}R*(P[SP]*(IS*(ES*)?|WS*)*)?)?\z`)
	complete    = regexp.MustCompile(`\ADH{0,8}R*P[SP]*\z`)
)

// folded replaces every block that is closed by one statement.
func folded(letters string) string {
	for {
		next := closedBlock.ReplaceAllString(letters, "S")
		if next == letters {
			return letters
		}
		letters = next
	}
}

// slowSource is a second reading: the first line with which the letters are no beginning of a source is the one.
func slowSource(text string) impl.SourceRes {
	if len(text) > 100000 {
		return impl.SourceRes{Line: -1}
	}
	var lines []sourceLine
	letters, regs := "", map[string]bool{}
	pieces := strings.SplitAfter(text, "\n")
	for i, piece := range pieces {
		if piece == "" && i == len(pieces)-1 {
			break
		}
		wrong := impl.SourceRes{Line: int64(i) + 1}
		line, ended := strings.CutSuffix(piece, "\n")
		if !ended {
			return wrong
		}
		got := slowSourceLine(line)
		// What is closed stays closed, so that only what is left is looked at again.
		letters = folded(letters + got.letter)
		if !beginning.MatchString(letters) || got.letter == "R" && regs[got.fields[0]] {
			return wrong
		}
		if got.letter == "R" {
			regs[got.fields[0]] = true
		}
		lines = append(lines, got)
	}
	if !complete.MatchString(letters) {
		return impl.SourceRes{Line: int64(len(lines)) + 1}
	}
	return impl.SourceRes{Source: slowSourceOf(lines)}
}

func wholeOf(word string) int64 {
	v, err := strconv.ParseInt(word, 10, 64)
	if err != nil {
		panic(word)
	}
	return v
}

func slowSourceOf(lines []sourceLine) impl.Source {
	s := impl.Source{Sig: impl.Sig{Regs: anyRegs()}}
	for i, l := range lines {
		switch l.letter {
		case "D":
			s.Dialect = map[string]int64{"gas": 0, "masm": 1}[l.fields[0]]
		case "H":
			s.Sig.Heaps = append(s.Sig.Heaps, impl.HeapSig{Size: wholeOf(l.fields[0]), Secret: l.fields[1] == "secret", Write: l.fields[2] == "write"})
		case "R":
			s.Sig.Regs[wholeOf(l.fields[0])] = slowValOf(l.fields[1:])
		case "P":
			s.Procs = append(s.Procs, impl.Proc{})
		case "I", "W", "S":
			last := &s.Procs[len(s.Procs)-1]
			last.Body = append(last.Body, slowStmtOf(lines, i))
		}
	}
	return s
}

func slowValOf(fields []string) impl.Val {
	switch fields[0] {
	case "ptr":
		return ptr(wholeOf(fields[1]), wholeOf(fields[2]), wholeOf(fields[3]))
	case "any":
		return impl.Val{Secret: fields[1] == "secret", Max: -1}
	}
	return impl.Val{Secret: fields[1] == "secret", Max: wholeOf(fields[0])}
}

// slowStmtOf counts the statements between the line and its end.
func slowStmtOf(lines []sourceLine, at int) impl.Stmt {
	l := lines[at]
	if l.letter == "S" {
		if l.ins.Op != 0 {
			return doStmt(l.ins)
		}
		return callStmt(wholeOf(l.fields[0]))
	}
	cond := map[string]int64{"z": 1, "nz": 2, "c": 3, "nc": 4}[l.fields[0]]
	counts, part, open := [2]int64{}, 0, 0
	for _, next := range lines[at+1:] {
		switch {
		case next.letter == "N" && open == 0:
			if l.letter == "W" {
				return whileStmt(cond, counts[0])
			}
			return ifStmt(cond, counts[0], counts[1])
		case next.letter == "N":
			open--
		case next.letter == "E" && open == 0:
			part = 1
		case next.letter == "I" || next.letter == "W":
			open++
			counts[part]++
		case next.letter == "S":
			counts[part]++
		}
	}
	panic("no end")
}

// slowSourceText prints a valid source.
func slowSourceText(s impl.Source) string {
	var b strings.Builder
	secret := map[bool]string{false: "public", true: "secret"}
	b.WriteString("dialect " + []string{"gas", "masm"}[s.Dialect] + "\n")
	for _, h := range s.Sig.Heaps {
		b.WriteString("heap " + strconv.Itoa(int(h.Size)) + " " + secret[h.Secret] + " " + map[bool]string{false: "read", true: "write"}[h.Write] + "\n")
	}
	for i, v := range s.Sig.Regs {
		text := strconv.Itoa(int(v.Max)) + " " + secret[v.Secret]
		if v.Max == -1 {
			text = "any " + secret[v.Secret]
		}
		if v.Kind == impl.ValPtr {
			text = "ptr " + strconv.Itoa(int(v.H)) + " " + strconv.Itoa(int(v.Lo)) + " " + strconv.Itoa(int(v.Hi))
		}
		b.WriteString("reg " + strconv.Itoa(i) + " " + text + "\n")
	}
	for _, p := range s.Procs {
		b.WriteString("proc\n" + slowBodyText(p.Body))
	}
	return b.String()
}

func slowBodyText(list []impl.Stmt) string {
	conds := []string{1: "z", 2: "nz", 3: "c", 4: "nc"}
	var b strings.Builder
	for i := 0; i < len(list); {
		s := list[i]
		middle := i + 1 + int(s.Then)
		end := middle + int(s.Else)
		switch s.Kind {
		case impl.SIns:
			b.WriteString(lineText(s.Ins, impl.Masm) + "\n")
		case impl.SCall:
			b.WriteString("call " + strconv.Itoa(int(s.Proc)) + "\n")
		case impl.SWhile:
			b.WriteString("while " + conds[s.Cond] + "\n" + slowBodyText(list[i+1:middle]) + "end\n")
		case impl.SIf:
			b.WriteString("if " + conds[s.Cond] + "\n" + slowBodyText(list[i+1:middle]))
			if s.Else > 0 {
				b.WriteString("else\n" + slowBodyText(list[middle:end]))
			}
			b.WriteString("end\n")
		}
		i = end
	}
	return b.String()
}

// slowTool puts the slow readings of all layers together.
func slowTool(text string) impl.ToolRes {
	read := slowSource(text)
	if read.Line != 0 {
		return impl.ToolRes{Stage: 1, At: read.Line}
	}
	s := read.Source
	if unit := slowCheck(s.Procs); unit.Err != 0 {
		return impl.ToolRes{Stage: 2, Err: unit.Err, Proc: unit.Proc, At: unit.At}
	}
	if !slowSig(s.Sig) {
		return impl.ToolRes{Stage: 3}
	}
	stmts := slowInline(s.Procs, 0)
	if check := slowCheckOf(s.Sig, stmts); check.Err != 0 {
		return impl.ToolRes{Stage: 4, Err: check.Err, At: check.At}
	}
	return impl.ToolRes{Text: []byte(programText(slowLower(stmts), s.Dialect))}
}

// randomSource is a source that is mostly valid and often let through.
func randomSource(random *rand.Rand) impl.Source {
	s := impl.Source{Dialect: random.Int63n(2), Sig: mixedSig()}
	for range random.Intn(3) {
		s.Sig.Regs[random.Intn(8)] = randomVal(random, 4)
	}
	s.Procs = make([]impl.Proc, 1+random.Intn(4))
	for i := range s.Procs {
		s.Procs[i].Body = randomBody(random, int64(i), int64(len(s.Procs)))
	}
	return s
}

// randomBody is statements for procedure own, with calls of later ones in all places.
func randomBody(random *rand.Rand, own, procs int64) []impl.Stmt {
	body := randomChecked(random, random.Intn(7), 2)
	for range random.Intn(3) {
		if own+1 == procs {
			break
		}
		call := callStmt(own + 1 + random.Int63n(procs-own-1))
		cond := 1 + random.Int63n(4)
		other := randomChecked(random, random.Intn(3), 1)
		switch random.Intn(5) {
		case 0:
			body = append(list(call), body...)
		case 1:
			body = append(body, call)
		case 2:
			body = joined(body, list(public), choiceOf(cond, list(call), other))
		case 3:
			body = joined(body, list(public), choiceOf(cond, other, list(call, movStmt)))
		default:
			body = joined(body, list(public), loopOf(cond, append(other, call, public)...))
		}
	}
	return body
}

// twinOf is another machine that fits where m does and differs in secrets alone.
func twinOf(random *rand.Rand, sig impl.Sig, m impl.Mach) impl.Mach {
	n := cloneMach(m)
	for i, v := range sig.Regs {
		if v.Secret {
			n.Regs[i] = randomIsAs(random, v, n.Heaps)
		}
	}
	for i, h := range sig.Heaps {
		if h.Secret {
			random.Read(n.Heaps[i].Data)
		}
	}
	return n
}

// randomFitting is a machine that fits a valid sig.
func randomFitting(random *rand.Rand, sig impl.Sig) impl.Mach {
	m := randomMachAs(random, sig, impl.Abs{Regs: sig.Regs})
	m.HasZ, m.Z, m.HasC, m.C = false, false, false, false
	return m
}

// wantKept asks of a machine that began as start: no fault, and heaplets that are not Write as they were.
func wantKept(t *testing.T, start, m impl.Mach) {
	t.Helper()
	if m.Status == impl.Faulted {
		t.Fatalf("a fault: %s", showMach(m))
	}
	for i, h := range start.Heaps {
		if !h.Write && !sameHeap(h, m.Heaps[i]) {
			t.Fatalf("heaplet %d was written: %s", i, showMach(m))
		}
	}
}

// wantSameShown asks that nothing that an onlooker sees of two machines differs.
func wantSameShown(t *testing.T, sig impl.Sig, a, b impl.Mach) {
	t.Helper()
	if !slices.Equal(a.Obs, b.Obs) || a.Pc != b.Pc || a.Status != b.Status {
		t.Fatalf("seen on two machines:\n%s\n%s", showMach(a), showMach(b))
	}
	for i, h := range sig.Heaps {
		if !h.Secret && !sameHeap(a.Heaps[i], b.Heaps[i]) {
			t.Fatalf("heaplet %d on two machines:\n%s\n%s", i, showMach(a), showMach(b))
		}
	}
}

// wantNoShow runs a program that was let through on two machines with SamePublic, and asks for promises 9 and 10 at every number of steps. It answers whether it halted.
func wantNoShow(t *testing.T, sig impl.Sig, prog []impl.Ins, end impl.Abs, m, n impl.Mach, steps int) bool {
	t.Helper()
	if !impl.SamePublic(sig, m, n) {
		t.Fatalf("not the same public things:\n%s\n%s", showMach(m), showMach(n))
	}
	a, b := m, n
	for range steps {
		a, b = impl.StepMach(prog, a), impl.StepMach(prog, b)
		wantKept(t, m, a)
		wantKept(t, n, b)
		wantSameShown(t, sig, a, b)
		if a.Status == impl.Halted {
			break
		}
	}
	if a.Status == impl.Halted && (!slowIsAs(end, a) || !slowIsAs(end, b)) {
		t.Fatalf("not as %+v:\n%s\n%s", end, showMach(a), showMach(b))
	}
	return a.Status == impl.Halted
}
