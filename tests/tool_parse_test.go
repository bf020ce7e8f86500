package tests

import (
	"math/rand"
	"slices"
	"strconv"
	"strings"
	"testing"

	"loop.example/s01319/impl"
)

func TestToolConstants(t *testing.T) {
	if !slices.Equal([]int64{impl.ToolOk, impl.ToolRead, impl.ToolUnit, impl.ToolSig, impl.ToolTest}, []int64{0, 1, 2, 3, 4}) {
		t.Errorf("the numbers of the stages")
	}
}

// everyForm has a line of every form.
const everyForm = "dialect masm\n" +
	"heap 16 public read\nheap 32 secret write\nheap 8 public write\nheap 9 secret read\n" +
	"reg 7 any public\nreg 0 ptr 0 0 0\nreg 1 ptr 1 -3 5\nreg 2 7 public\nreg 3 255 secret\nreg 5 any secret\nreg 6 ptr 2 -4 -1\n" +
	"proc\ncmpi r2, 3\nif z\nmov r4, r2\nmovi r4, -7\nend\nif nz\nelse\nadd r4, r2, r2\nend\nif c\ncall 1\nelse\nwhile nc\nend\nend\n" +
	"proc\nldq r4, [r0 + 8] ; h0\nwhile z\nwhile nz\nstbx [r1 + r2], r3 ; h1\nend\ncmp r2, r2\nend\n" +
	"proc\n"

func everySource() impl.Source {
	return impl.Source{
		Dialect: impl.Masm,
		Sig:     sigWith(ptr(0, 0, 0), ptr(1, -3, 5), num(7), hidden(255), hidden(-1), hidden(-1), ptr(2, -4, -1), num(-1)),
		Procs: unitOf(
			list(cmpiStmt(2, 3), ifStmt(1, 2, 0), movOf(4, 2), moviStmt(4, -7), ifStmt(2, 0, 1), doStmt(impl.Ins{Op: impl.OpAdd, D: 4, A: 2, B: 2}), ifStmt(3, 1, 1), callStmt(1), whileStmt(4, 0)),
			list(doStmt(impl.Ins{Op: impl.OpLdq, D: 4, A: 0, Imm: 8}), whileStmt(1, 3), whileStmt(2, 1), doStmt(impl.Ins{Op: impl.OpStbx, D: 3, A: 1, B: 2, H: 1}), doStmt(impl.Ins{Op: impl.OpCmp, A: 2, B: 2})),
			nil,
		),
	}
}

func TestParseEveryForm(t *testing.T) {
	wantSource(t, "every form", everyForm, everySource())
	gas := everySource()
	gas.Dialect = impl.Gas
	wantSource(t, "in gas", strings.Replace(everyForm, "masm", "gas", 1), gas)
	wantSource(t, "the least", "dialect gas\nproc\n", impl.Source{Sig: impl.Sig{Regs: anyRegs()}, Procs: unitOf(nil)})
	for _, s := range samples() {
		text := "dialect gas\nproc\n" + s.masm + "\n"
		if s.ins.Op > 28 {
			wantLine(t, "a jump or halt", text, 3)
			continue
		}
		wantSource(t, "an op", text, impl.Source{Sig: impl.Sig{Regs: anyRegs()}, Procs: unitOf(list(doStmt(s.ins)))})
		wantLine(t, "an op in gas", "dialect gas\nproc\n"+s.gas+"\n", 3)
	}
	for i, cond := range []string{"z", "nz", "c", "nc"} {
		want := impl.Source{Sig: impl.Sig{Regs: anyRegs()}, Procs: unitOf(list(ifStmt(int64(i)+1, 0, 0), whileStmt(int64(i)+1, 0)))}
		wantSource(t, "conditions", "dialect gas\nproc\nif "+cond+"\nend\nwhile "+cond+"\nend\n", want)
	}
}

// Every line of a text that is right is made wrong, one at a time: then it is the first that can't stand.
func TestParseWornLines(t *testing.T) {
	lines := strings.SplitAfter(strings.TrimSuffix(everyForm, "\n"), "\n")
	lines[len(lines)-1] += "\n"
	for i, line := range lines {
		bare := strings.TrimSuffix(line, "\n")
		first, rest, spaced := strings.Cut(bare, " ")
		wrongs := []string{"", " ", " " + bare, bare + " ", bare + "\r", "\t" + bare, bare + "\t", bare + "\x00", bare + " 0", bare + " #", strings.ToUpper(bare), bare[1:], bare + "x", first + "x" + bare[len(first):], "halt", "L1:", "jmp L1", "jz L2", "heap", "reg", "reg 4", "call", "if", "while", "dialect", "proc proc"}
		if spaced {
			wrongs = append(wrongs, first, first+" ", first+"  "+rest, first+"\t"+rest, first+" "+rest[:len(rest)-1]+"?", bare[:strings.LastIndex(bare, " ")])
		}
		for _, wrong := range wrongs {
			worn := slices.Clone(lines)
			worn[i] = wrong + "\n"
			wantLine(t, "a worn line", strings.Join(worn, ""), int64(i)+1)
			worn[len(worn)-1] = "also wrong\n"
			wantLine(t, "a worn line and the last one", strings.Join(worn, ""), int64(i)+1)
		}
		wantLine(t, "no newline", strings.Join(lines[:i], "")+bare, int64(i)+1)
		wantLine(t, "an empty line ahead", strings.Join(lines[:i], "")+"\n"+strings.Join(lines[i:], ""), int64(i)+1)
	}
	wantLine(t, "an empty line at the end", everyForm+"\n", int64(len(lines))+1)
	wantLine(t, "a space at the end", everyForm+" ", int64(len(lines))+1)
	wantLine(t, "carriage returns", strings.ReplaceAll(everyForm, "\n", "\r\n"), 1)
	wantLine(t, "carriage returns alone", strings.ReplaceAll(everyForm, "\n", "\r"), 1)
	wantLine(t, "an earlier line wrong, the last without a newline", "dialect gas\nproc\nhalt\nmov r1, r2", 3)
	wantLine(t, "the last without a newline and wrong", "dialect gas\nproc\nhalt", 3)
	wantLine(t, "the last without a newline", "dialect gas\nproc\nmov r1, r2", 3)
	wantLine(t, "the end of a block without a newline", "dialect gas\nproc\nif z\nend", 4)
	wantLine(t, "one letter", "d", 1)
}

// Each kind of line at each kind of place: it stands there, or it is the line that can't.
func TestParsePlaces(t *testing.T) {
	kinds := map[string]string{
		"D": "dialect gas", "H": "heap 8 public read", "R": "reg 2 any public", "Q": "reg 3 ptr 0 0 0", "P": "proc",
		"S": "mov r1, r2", "I": "if z", "W": "while nc", "E": "else", "N": "end", "C": "call 1",
	}
	const body, inBlock = "PSIWC", "SIWCN"
	places := []struct{ ahead, stand string }{
		{"", "D"},
		{"dialect masm\n", "HRQP"},
		{"dialect masm\nheap 1 public read\n", "HRQP"},
		{"dialect masm\nreg 1 any public\n", "RQP"},
		{"dialect masm\nreg 1 ptr 0 0 0\n", "RQP"},
		{"dialect masm\nheap 1 public read\nreg 1 any public\n", "RQP"},
		{"dialect masm\nproc\n", body},
		{"dialect masm\nheap 1 public read\nreg 1 any public\nproc\n", body},
		{"dialect masm\nproc\nproc\n", body},
		{"dialect masm\nproc\nmov r1, r1\n", body},
		{"dialect masm\nproc\ncall 0\n", body},
		{"dialect masm\nproc\nif z\n", inBlock + "E"},
		{"dialect masm\nproc\nif z\nmov r1, r1\n", inBlock + "E"},
		{"dialect masm\nproc\nif z\nelse\n", inBlock},
		{"dialect masm\nproc\nif z\nelse\nmov r1, r1\n", inBlock},
		{"dialect masm\nproc\nif z\nend\n", body},
		{"dialect masm\nproc\nif z\nelse\nend\n", body},
		{"dialect masm\nproc\nwhile z\n", inBlock},
		{"dialect masm\nproc\nwhile z\nmov r1, r1\n", inBlock},
		{"dialect masm\nproc\nwhile z\nend\n", body},
		{"dialect masm\nproc\nif z\nwhile z\n", inBlock},
		{"dialect masm\nproc\nwhile z\nif z\n", inBlock + "E"},
		{"dialect masm\nproc\nif z\nif z\nelse\nend\n", inBlock + "E"},
		{"dialect masm\nproc\nif z\nelse\nif z\nend\n", inBlock},
		{"dialect masm\nproc\nif z\nelse\nif z\n", inBlock + "E"},
		{"dialect masm\nproc\nwhile z\nif z\nelse\nend\n", inBlock},
		{"dialect masm\nproc\nif z\nwhile z\nend\n", inBlock + "E"},
		{"dialect masm\nproc\nif z\nend\nproc\n", body},
	}
	for _, place := range places {
		at := int64(strings.Count(place.ahead, "\n")) + 1
		for kind, line := range kinds {
			text := place.ahead + line + "\n"
			if !strings.Contains(place.stand, kind) {
				wantLine(t, "out of place", text, at)
				wantLine(t, "out of place, more behind it", text+"proc\nmov r1, r2\n", at)
				continue
			}
			got, slow := impl.ParseSource([]byte(text)), slowSource(text)
			if !sameSourceRes(got, slow) || got.Line != 0 && got.Line != at+1 {
				t.Errorf("%q: %+v, not %+v", text, got, slow)
			}
		}
	}
}

func TestParseNotComplete(t *testing.T) {
	wantLine(t, "no text", "", 1)
	wantLine(t, "a newline", "\n", 1)
	wantLine(t, "a dialect alone", "dialect gas\n", 2)
	wantLine(t, "no proc", "dialect gas\nheap 8 public read\n", 3)
	wantLine(t, "no proc", "dialect gas\nheap 8 public read\nreg 1 any public\n", 4)
	wantLine(t, "an open if", "dialect gas\nproc\nif z\n", 4)
	wantLine(t, "an open else", "dialect gas\nproc\nif z\nelse\n", 5)
	wantLine(t, "an open while", "dialect gas\nproc\nwhile z\nmov r1, r2\n", 5)
	wantLine(t, "an open while around a closed if", "dialect gas\nproc\nwhile z\nif z\nend\n", 6)
	wantLine(t, "two open blocks", "dialect gas\nproc\nif z\nwhile z\n", 5)
	wantLine(t, "one end too few", "dialect gas\nproc\nif z\nwhile z\nend\n", 6)
	wantLine(t, "one end too many", "dialect gas\nproc\nif z\nwhile z\nend\nend\nend\n", 7)
	wantLine(t, "no dialect", "proc\n", 1)
	if got := impl.ParseSource(nil); !sameSourceRes(got, impl.SourceRes{Line: 1}) {
		t.Errorf("nil: %+v", got)
	}
}

func TestParseDialects(t *testing.T) {
	for _, wrong := range []string{"dialect", "dialect ", "dialect GAS", "dialect gass", "dialect ga", "dialect 0", "dialect gas masm", "dialect gas gas", "dialect  gas", "Dialect gas", "dialect gas ", " dialect gas", "dialect arm", "dialect gas|masm", "dialectgas", "gas"} {
		wantLine(t, "a dialect that is none", wrong+"\nproc\n", 1)
	}
	wantLine(t, "two dialects", "dialect gas\ndialect gas\nproc\n", 2)
	wantLine(t, "two dialects", "dialect gas\nheap 8 public read\ndialect masm\nproc\n", 3)
	wantLine(t, "two dialects", "dialect gas\nproc\ndialect masm\n", 3)
}

func TestParseHeaps(t *testing.T) {
	for size := range 12 {
		text := "dialect gas\n" + strings.Repeat("heap 8 secret write\n", size)
		want := impl.Source{Sig: impl.Sig{Regs: anyRegs()}, Procs: unitOf(nil)}
		for range size {
			want.Sig.Heaps = append(want.Sig.Heaps, impl.HeapSig{Size: 8, Secret: true, Write: true})
		}
		if size <= 8 {
			wantSource(t, "heaps", text+"proc\n", want)
		} else {
			wantLine(t, "too many heaps", text+"proc\n", 10)
		}
	}
	for i, row := range []string{"public read", "public write", "secret read", "secret write"} {
		want := impl.Source{Sig: impl.Sig{Heaps: []impl.HeapSig{{Size: 5, Secret: i >= 2, Write: i%2 == 1}}, Regs: anyRegs()}, Procs: unitOf(nil)}
		wantSource(t, "heap", "dialect gas\nheap 5 "+row+"\nproc\n", want)
	}
	for _, wrong := range []string{"heap", "heap 8", "heap 8 public", "heap 8 public read read", "heap public read", "heap 8 read public", "heap 8 public public", "heap 8 read read", "heap 8 public rw", "heap 8 private read", "heap 8  public read", "heap  public read", "heap any public read", "heap 8, public, read", "heap 8 Public read", "heaps 8 public read"} {
		wantLine(t, "a heap that is none", "dialect gas\n"+wrong+"\nproc\n", 2)
	}
}

func TestParseRegs(t *testing.T) {
	for i := range int64(10) {
		number := strconv.FormatInt(i, 10)
		rows := map[string]impl.Val{"any public": num(-1), "any secret": hidden(-1), "0 public": num(0), "17 secret": hidden(17), "ptr 3 -5 6": ptr(3, -5, 6), "ptr 0 0 0": ptr(0, 0, 0)}
		for form, val := range rows {
			text := "dialect gas\nreg " + number + " " + form + "\nproc\n"
			if i >= 8 {
				wantLine(t, "no register", text, 2)
				continue
			}
			want := impl.Source{Sig: impl.Sig{Regs: anyRegs()}, Procs: unitOf(nil)}
			want.Sig.Regs[i] = val
			wantSource(t, "a register", text, want)
			for again := range rows {
				other := strconv.FormatInt((i+1)%8, 10)
				wantLine(t, "a register twice", "dialect gas\nreg "+number+" "+form+"\nreg "+other+" any public\nreg "+number+" "+again+"\nproc\n", 4)
			}
		}
	}
	for _, wrong := range []string{"reg", "reg 1", "reg 1 any", "reg 1 public", "reg 1 any public public", "reg any public", "reg 1 any read", "reg 1 Any public", "reg 1 any PUBLIC", "reg 1 ptr", "reg 1 ptr 0", "reg 1 ptr 0 0", "reg 1 ptr 0 0 0 0", "reg 1 ptr public", "reg 1 any 0 0 0", "reg 1 5 0 0 0", "reg 1 ptr 0 0 0 public", "reg 1 ptr public 0 0", "reg r1 any public", "reg 1 pointer 0 0 0", "reg 1 -1 public", "reg 1 ptr any 0 0", "reg -1 any public", "reg 01 any public", "reg 1 ", "reg  any public", "reg 1  public", "reg 1 ptr  0 0"} {
		wantLine(t, "a reg that is none", "dialect gas\n"+wrong+"\nproc\n", 2)
	}
	// All eight in another order, then one too many.
	text := "dialect gas\n"
	for _, i := range []int{3, 1, 0, 2, 7, 6, 4, 5} {
		text += "reg " + strconv.Itoa(i) + " " + strconv.Itoa(100+i) + " public\n"
	}
	wantSource(t, "in another order", text+"proc\n", impl.Source{Sig: impl.Sig{Regs: []impl.Val{num(100), num(101), num(102), num(103), num(104), num(105), num(106), num(107)}}, Procs: unitOf(nil)})
	wantLine(t, "nine", text+"reg 3 any public\nproc\n", 10)
}

// Every field that is a number, as each number may be and as it may not. Bounds are not asked: those are ValidSig's and CheckUnit's.
func TestParseNumbers(t *testing.T) {
	rows := []struct {
		line   string
		signed bool
		field  func(s *impl.Source) *int64
	}{
		{"heap ? public read\nproc", false, func(s *impl.Source) *int64 { return &s.Sig.Heaps[0].Size }},
		{"reg 4 ? public\nproc", false, func(s *impl.Source) *int64 { return &s.Sig.Regs[4].Max }},
		{"reg 4 ? secret\nproc", false, func(s *impl.Source) *int64 { return &s.Sig.Regs[4].Max }},
		{"reg 4 ptr ? 0 0\nproc", false, func(s *impl.Source) *int64 { return &s.Sig.Regs[4].H }},
		{"reg 4 ptr 0 ? 0\nproc", true, func(s *impl.Source) *int64 { return &s.Sig.Regs[4].Lo }},
		{"reg 4 ptr 0 0 ?\nproc", true, func(s *impl.Source) *int64 { return &s.Sig.Regs[4].Hi }},
		{"proc\ncall ?", false, func(s *impl.Source) *int64 { return &s.Procs[0].Body[0].Proc }},
	}
	plain := []int64{0, 1, 7, 8, 9, 10, 19, 20, 100, 4096, 4097, 999999999, 1000000000, 1 << 31, 1 << 32, farthest, farthest + 1, 1000000000000, 9999999999999}
	wrong := []string{"", "00", "01", "007", "-0", "+0", "+1", "--1", "-", "-01", "10000000000000", "00000000000001", "99999999999999", "9223372036854775807", "9223372036854775808", "-9223372036854775808", "18446744073709551616", "-10000000000000", "1a", "a1", "0x1", "0b1", "0o7", "1_0", "1.0", "1e3", "1,", "٣", "１", "$1", "r1", " 1", "1 ", "ptr", "one"}
	for _, row := range rows {
		at := int64(2 + strings.Count(row.line[:strings.Index(row.line, "?")], "\n"))
		text := func(number string) string {
			return "dialect gas\n" + strings.Replace(row.line, "?", number, 1) + "\n"
		}
		try := func(v int64, read bool) {
			if !read {
				wantLine(t, row.line, text(strconv.FormatInt(v, 10)), at)
				return
			}
			want := slowSource(text("0")).Source
			*row.field(&want) = v
			wantSource(t, row.line, text(strconv.FormatInt(v, 10)), want)
		}
		for _, v := range plain {
			try(v, true)
			if v > 0 {
				try(-v, row.signed)
			}
		}
		for _, number := range wrong {
			wantLine(t, row.line, text(number), at)
		}
	}
	wantSource(t, "Lo above Hi", "dialect gas\nreg 0 ptr 9 5 -5\nproc\n", impl.Source{Sig: impl.Sig{Regs: append([]impl.Val{ptr(9, 5, -5)}, anyRegs()[:7]...)}, Procs: unitOf(nil)})
}

func TestParseStatements(t *testing.T) {
	ahead := "dialect gas\nproc\nmov r1, r2\n"
	for _, wrong := range []string{
		"halt", "jmp L0", "jz L1", "jnz L1", "jc L1", "jnc L1", "L0:", "L1:", ".L1:", "jmp 0", "halt 0", "nop",
		"mov %r2, %r1", "movi $1, %r2", "ldb 16(%r1), %r2 # h0", "mov r8, r1", "mov r1, r9", "mov r1", "mov r1, r2, r3", "mov r1 r2", "mov r1,r2", "mov  r1, r2", "mov r1,  r2", "mov r1, r2 ", "MOV r1, r2", "mov\tr1, r2", "mov", "mov ", "movr1, r2",
		"movi r1, 1000001", "movi r1, -1000001", "movi r1, -0", "movi r1, 01", "movi r1, +1", "movi r1, 1000000000", "movi r1, 10000000000000", "andi r1, r1, -1", "shl r1, r1, 64", "shr r1, r1, -1",
		"ldb r2, [r1 + 16]", "ldb r2, [r1 + 16] ; h8", "ldb r2, [r1 + 16] ; h-1", "ldb r2, [r1+16] ; h0", "ldb r2, [r1 + r3] ; h0", "ldbx r2, [r1 + 16] ; h0", "stb r2, [r1 + 16] ; h0", "stb [r1 + 16], r2 ; h", "stb [r1 + 16], r2 # h0",
		"if", "if ", "if x", "if Z", "if zz", "if z nz", "if nz,", "if 1", "if  z", "while", "while zn", "while nzc", "while z z", "else if", "else z", "end if", "endif", "call", "call x", "call -1", "call 1 2", "call  1", "call 01", "call r1", "proc 1", "proc main", "procs", "#", "; comment", "mov r1, r2 ; comment",
	} {
		wantLine(t, "no statement", ahead+wrong+"\n", 4)
		wantLine(t, "no statement, in an if", ahead+"if z\n"+wrong+"\nend\n", 5)
		wantLine(t, "no statement, in a while", ahead+"while z\n"+wrong+"\nend\n", 5)
	}
	eachBound(func(x impl.Ins) {
		if x.Op > 28 {
			return
		}
		text := ahead + lineText(x, impl.Masm) + "\n"
		if !impl.ValidIns(x) {
			wantLine(t, "an instruction out of its bounds", text, 4)
			return
		}
		wantSource(t, "an instruction at its bounds", text, impl.Source{Sig: impl.Sig{Regs: anyRegs()}, Procs: unitOf(list(movOf(1, 2), doStmt(x)))})
	})
}

func TestParseBlocks(t *testing.T) {
	rows := []struct {
		text string
		want []impl.Stmt
	}{
		{"if z\nend\n", list(ifStmt(1, 0, 0))},
		{"if z\nelse\nend\n", list(ifStmt(1, 0, 0))},
		{"if z\nS\nelse\nend\n", list(ifStmt(1, 1, 0), movStmt)},
		{"if z\nelse\nS\nend\n", list(ifStmt(1, 0, 1), movStmt)},
		{"if z\nS\nelse\nS\nS\nend\nS\n", list(ifStmt(1, 1, 2), movStmt, movStmt, movStmt, movStmt)},
		{"while c\nend\n", list(whileStmt(3, 0))},
		{"while c\nS\nS\nend\nS\n", list(whileStmt(3, 2), movStmt, movStmt, movStmt)},
		{"while c\nwhile nc\nwhile z\nend\nend\nend\n", list(whileStmt(3, 2), whileStmt(4, 1), whileStmt(1, 0))},
		{"while c\nS\nwhile nc\nS\nend\nS\nend\n", list(whileStmt(3, 4), movStmt, whileStmt(4, 1), movStmt, movStmt)},
		{"if z\nif nz\nS\nelse\nS\nend\nelse\nif c\nend\nS\nend\n", list(ifStmt(1, 3, 2), ifStmt(2, 1, 1), movStmt, movStmt, ifStmt(3, 0, 0), movStmt)},
		{"if z\nelse\nif z\nelse\nif z\nelse\nS\nend\nend\nend\n", list(ifStmt(1, 0, 3), ifStmt(1, 0, 2), ifStmt(1, 0, 1), movStmt)},
		{"if z\nend\nif z\nend\n", list(ifStmt(1, 0, 0), ifStmt(1, 0, 0))},
		{"while z\ncall 3\nend\ncall 9999999999999\n", list(whileStmt(1, 1), callStmt(3), callStmt(9999999999999))},
	}
	for _, row := range rows {
		body := strings.ReplaceAll(row.text, "S\n", "mov r0, r0\n")
		want := impl.Source{Sig: impl.Sig{Regs: anyRegs()}, Procs: unitOf(row.want)}
		wantSource(t, "blocks", "dialect gas\nproc\n"+body, want)
		want.Procs = unitOf(nil, joined(list(movStmt), row.want, list(movStmt)), row.want)
		wantSource(t, "blocks", "dialect gas\nproc\nproc\nmov r0, r0\n"+body+"mov r0, r0\nproc\n"+body, want)
	}
	// More than a unit may have is read: procedures, statements and depth.
	many := impl.Source{Sig: impl.Sig{Regs: anyRegs()}, Procs: make([]impl.Proc, 300)}
	wantSource(t, "300 procedures", "dialect gas\n"+strings.Repeat("proc\n", 300), many)
	many.Procs = unitOf(times(900, movStmt))
	wantSource(t, "900 statements", "dialect gas\nproc\n"+strings.Repeat("mov r0, r0\n", 900), many)
	for _, depth := range []int{16, 17, 100, 321, 400} {
		many.Procs = unitOf(nested(int64(depth), impl.SIf))
		wantSource(t, "deep", "dialect gas\nproc\n"+strings.Repeat("if z\n", depth)+strings.Repeat("end\n", depth), many)
	}
}

func TestParseTextMax(t *testing.T) {
	text := "dialect gas\n" + strings.Repeat("proc\n", (100000-12-8)/5) + "call 12\n"
	if len(text) != 100000 {
		t.Fatalf("%d bytes", len(text))
	}
	got := impl.ParseSource([]byte(text))
	if got.Line != 0 || len(got.Source.Procs) != 19996 || len(got.Source.Procs[19995].Body) != 1 || len(got.Source.Procs[0].Body) != 0 {
		t.Errorf("TextMax bytes: line %d, %d procedures", got.Line, len(got.Source.Procs))
	}
	if got := impl.Tool([]byte(text)); !sameTool(got, impl.ToolRes{Stage: impl.ToolUnit, Err: impl.UnitSize}) {
		t.Errorf("TextMax bytes: %+v", got)
	}
	for name, long := range map[string]string{
		"one byte more": "dialect masm\n" + text[12:], "a newline more": text + "\n", "zeros": strings.Repeat("\x00", 100001), "twice": text + text, "newlines": strings.Repeat("\n", 100001), "wrong from the first": "x" + text,
	} {
		wantLine(t, name, long, -1)
	}
	if got := impl.ParseSource([]byte(text[:99999] + "3")); !sameSourceRes(got, impl.SourceRes{Line: 19998}) {
		t.Errorf("TextMax bytes, the last not a newline: line %d", got.Line)
	}
	wantLine(t, "TextMax newlines", strings.Repeat("\n", 100000), 1)
	wantLine(t, "TextMax spaces", strings.Repeat(" ", 100000), 1)
	deep := "dialect gas\nproc\n" + strings.Repeat("if z\n", 19996)
	if got := impl.ParseSource([]byte(deep)); !sameSourceRes(got, impl.SourceRes{Line: 19999}) {
		t.Errorf("19996 open blocks: line %d", got.Line)
	}
	deep = "dialect gas\nproc\n" + strings.Repeat("while z\n", 8000) + strings.Repeat("end\n", 8000)
	got = impl.ParseSource([]byte(deep))
	if got.Line != 0 || !slices.Equal(got.Source.Procs[0].Body, nested(8000, impl.SWhile)) {
		t.Errorf("8000 blocks: line %d", got.Line)
	}
	if got := impl.Tool([]byte(deep)); !sameTool(got, impl.ToolRes{Stage: impl.ToolUnit, Err: impl.UnitSize}) {
		t.Errorf("8000 blocks: %+v", got)
	}
}

// wornSource is a source's text with some of its lines or bytes taken out, doubled, changed or moved.
func wornSource(random *rand.Rand, text string) string {
	lines := strings.SplitAfter(text, "\n")
	extra := []string{"else\n", "end\n", "if z\n", "while nc\n", "proc\n", "call 1\n", "heap 4 public read\n", "reg 3 any public\n", "reg 9 any public\n", "dialect gas\n", "halt\n", "mov r1, r2\n", "\n", "ldb r2, [r1 + 0] ; h1\n"}
	for range random.Intn(3) {
		at := random.Intn(len(lines))
		switch random.Intn(5) {
		case 0:
			lines = slices.Delete(lines, at, at+1)
		case 1:
			lines = slices.Insert(lines, at, lines[at])
		case 2:
			lines = slices.Insert(lines, at, extra[random.Intn(len(extra))])
		case 3:
			other := random.Intn(len(lines))
			lines[at], lines[other] = lines[other], lines[at]
		default:
			lines[at] = worn(random, lines[at])
		}
		if len(lines) == 0 {
			return ""
		}
	}
	return strings.Join(lines, "")
}

func TestParseWornSources(t *testing.T) {
	random := rand.New(rand.NewSource(54))
	right, wrong := 0, 0
	for range 8000 {
		text := wornSource(random, slowSourceText(randomSource(random)))
		got, want := impl.ParseSource([]byte(text)), slowSource(text)
		if !sameSourceRes(got, want) {
			t.Fatalf("%q:\n got %+v\nwant %+v", text, got, want)
		}
		if got.Line == 0 {
			right++
		} else {
			wrong++
		}
	}
	if right < 1000 || wrong < 1000 {
		t.Errorf("%d right, %d wrong", right, wrong)
	}
}

func TestParseKeepsItsArgument(t *testing.T) {
	text := []byte(everyForm + "unseen")[:len(everyForm)]
	old := slices.Clone(text[:cap(text)])
	got := impl.ParseSource(text)
	if !slices.Equal(text[:cap(text)], old) {
		t.Fatalf("the text is changed")
	}
	fill(text, 'x')
	if !sameSource(got.Source, everySource()) {
		t.Fatalf("the source shares memory with the text")
	}
	again := impl.ParseSource([]byte(everyForm))
	for i := range got.Source.Procs {
		fill(got.Source.Procs[i].Body, impl.Stmt{Kind: 9})
		for j := range got.Source.Procs {
			if i < j && !slices.Equal(got.Source.Procs[j].Body, again.Source.Procs[j].Body) {
				t.Fatalf("procedures %d and %d share memory", i, j)
			}
		}
	}
	fill(got.Source.Sig.Heaps, impl.HeapSig{Size: 77})
	fill(got.Source.Sig.Regs, num(77))
	fill(got.Source.Procs, impl.Proc{Body: list(movStmt)})
	if !sameSource(again.Source, everySource()) || !sameSource(impl.ParseSource([]byte(everyForm)).Source, everySource()) {
		t.Fatalf("two answers share memory")
	}
}
