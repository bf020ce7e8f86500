package tests

import (
	"math"
	"math/rand"
	"slices"
	"strconv"
	"strings"
	"testing"

	"loop.example/s01319/impl"
)

func TestReadBounds(t *testing.T) {
	eachBound(func(x impl.Ins) {
		if x.Op >= impl.OpJmp && x.Op <= impl.OpJnc {
			return
		}
		for _, dialect := range bothDialects {
			text := "halt\n" + lineText(x, dialect) + "\nhalt\n"
			if impl.ValidIns(x) {
				wantRead(t, text, dialect, impl.AsmRes{Prog: []impl.Ins{halt, x, halt}})
			} else {
				wantError(t, text, dialect, impl.ReadLine, 2)
			}
		}
	})
}

// wrongNumbers are no numbers, with or without a sign.
var wrongNumbers = []string{
	"", "-", "--1", "-0", "-00", "+0", "+1", "00", "01", "-01", "007", "000000001", "1000000000", "9999999999", "0000000000", "18446744073709551617", "4294967297",
	" 1", "1 ", "- 1", "1-", "0x1", "1e1", "1.0", "1_0", "x", "a", "\x001", "1\x00", "\u0661", "\uff11", "1:", ":", "/", "9;",
}

func TestWrongImms(t *testing.T) {
	for _, number := range append(slices.Clone(wrongNumbers), "1000001", "-1000001", "999999999", "-999999999", "-1000000000") {
		for _, line := range []string{"movi r1, #", "addi r1, r2, #", "cmpi r1, #", "ldb r1, [r2 + #] ; h0", "stq [r2 + #], r1 ; h0"} {
			wantError(t, "halt\n"+strings.Replace(line, "#", number, 1)+"\nhalt\n", impl.Masm, impl.ReadLine, 2)
		}
		for _, line := range []string{"movi $@, %r1", "addi %r2, $@, %r1", "cmpi %r1, $@", "ldb @(%r2), %r1 # h0", "stq %r1, @(%r2) # h0"} {
			wantError(t, "halt\n"+strings.Replace(line, "@", number, 1)+"\nhalt\n", impl.Gas, impl.ReadLine, 2)
		}
	}
	for _, line := range []string{"andi r1, r2, -1", "andi r1, r2, 1000001", "shl r1, r2, -1", "shl r1, r2, 64", "shr r1, r2, -1", "shr r1, r2, 64", "shr r1, r2, 999999999"} {
		wantError(t, line+"\nhalt\n", impl.Masm, impl.ReadLine, 1)
	}
}

func TestWrongRegistersAndHeaplets(t *testing.T) {
	for _, number := range append(slices.Clone(wrongNumbers), "-1", "8", "9", "10", "999999999") {
		for _, dialect := range bothDialects {
			for _, s := range samples() {
				for _, field := range []byte(opRows()[s.ins.Op-1].fields) {
					if field == 'I' {
						continue
					}
					// A value that no other field has marks the place.
					line := lineText(setField(s.ins, field, 77), dialect)
					wantError(t, strings.Replace(line, "77", number, 1)+"\nhalt\n", dialect, impl.ReadLine, 1)
				}
			}
		}
	}
}

func TestWrongLabels(t *testing.T) {
	for _, number := range append(slices.Clone(wrongNumbers), "-1") {
		for _, dialect := range bothDialects {
			label := strings.Replace(labelText(77, dialect), "77", number, 1)
			wantError(t, "halt\n"+label+"\nhalt\n", dialect, impl.ReadLine, 2)
			for op := int64(impl.OpJmp); op <= impl.OpJnc; op++ {
				jump := strings.Replace(lineText(impl.Ins{Op: op, Imm: 77}, dialect), "77", number, 1)
				wantError(t, "halt\n"+jump+"\nhalt\n", dialect, impl.ReadLine, 2)
			}
		}
	}
	for _, line := range []string{"L1", "L1 :", "L1: ", " L1:", "L 1:", "l1:", ".L1:", "L1::", "LL1:", "L1:halt", "L1: halt", "L", ":", "1:", "La:"} {
		wantError(t, line+"\nhalt\n", impl.Masm, impl.ReadLine, 1)
	}
	for _, line := range []string{".L1", ".L1 :", ".L1: ", " .L1:", ". L1:", ".l1:", "L1:", "..L1:", ".", ".L", ".1:", ".L1:halt"} {
		wantError(t, line+"\nhalt\n", impl.Gas, impl.ReadLine, 1)
	}
}

func TestLabelNumbers(t *testing.T) {
	for _, number := range []int64{0, 1, 9, 10, 1999, 2000, 1000000, 1000001, 99999999, 100000000, 999999998, 999999999} {
		for _, dialect := range bothDialects {
			for op := int64(impl.OpJmp); op <= impl.OpJnc; op++ {
				jump := lineText(impl.Ins{Op: op, Imm: number}, dialect)
				text := "halt\n" + labelText(number, dialect) + "\n" + jump + "\nhalt\n"
				wantRead(t, text, dialect, impl.AsmRes{Prog: []impl.Ins{halt, {Op: op, Imm: 1}, halt}})
				wantError(t, "halt\n"+jump+"\nhalt\n", dialect, impl.ReadLabel, 2)
			}
		}
	}
}

// Every place of a line in which a space, or another byte, is too many or too few.
func TestSpacesAndBytes(t *testing.T) {
	for _, s := range samples() {
		for _, dialect := range bothDialects {
			line := s.in(dialect)
			tail := "\n" + labelText(1, dialect) + "\nhalt\n"
			for i := range len(line) + 1 {
				for _, more := range []string{" ", "\t", "\r", ",", "%", "$", "#", ";", "(", "]", "-", "\x00", "\xff"} {
					wantNotRead(t, line[:i]+more+line[i:], tail, s.ins, dialect)
				}
				if i < len(line) {
					wantNotRead(t, line[:i]+line[i+1:], tail, s.ins, dialect)
					wantNotRead(t, line[:i]+strings.ToUpper(line[i:i+1])+line[i+1:], tail, s.ins, dialect)
				}
			}
		}
	}
}

// wantNotRead asks that a line is not read, or, where the pattern of some op lets it through, not as the instruction that it was made from.
func wantNotRead(t *testing.T, line, tail string, was impl.Ins, dialect int64) {
	t.Helper()
	if line == lineText(was, dialect) {
		return
	}
	wantRead(t, line+tail, dialect, slowRead(line+tail, dialect, formsOf(dialect)))
	if got := impl.ReadAsm([]byte(line+tail), dialect); got.Err == impl.ReadOk && got.Prog[0] == was {
		t.Errorf("dialect %d: %q is read as %+v", dialect, line, was)
	}
}

var gasForms, masmForms = lineForms(impl.Gas), lineForms(impl.Masm)

func formsOf(dialect int64) []lineForm {
	if dialect == impl.Gas {
		return gasForms
	}
	return masmForms
}

func TestReadErrors(t *testing.T) {
	rows := []struct {
		name string
		text string
		err  int64
		line int64
	}{
		{"empty", "", impl.ReadFlat, 0},
		{"one newline", "\n", impl.ReadLine, 1},
		{"an empty line first", "\nhalt\n", impl.ReadLine, 1},
		{"an empty line between", "halt\n\nhalt\n", impl.ReadLine, 2},
		{"an empty line last", "halt\nhalt\n\n", impl.ReadLine, 3},
		{"a line of a space", "halt\n \nhalt\n", impl.ReadLine, 2},
		{"no newline", "halt", impl.ReadLine, 1},
		{"no newline at the second", "halt\nhalt", impl.ReadLine, 2},
		{"no newline behind a label", "halt\nL1:", impl.ReadLine, 2},
		{"no newline and nothing of a form", "halt\nx", impl.ReadLine, 2},
		{"a return ahead of the newline", "halt\r\n", impl.ReadLine, 1},
		{"a byte 0 for a newline", "halt\x00", impl.ReadLine, 1},
		{"a name that is none", "nop\nhalt\n", impl.ReadLine, 1},
		{"half a name", "mo r1, r2\nhalt\n", impl.ReadLine, 1},
		{"a longer name", "halts\n", impl.ReadLine, 1},
		{"two names", "halt halt\n", impl.ReadLine, 1},
		{"a name with no operands", "mov\nhalt\n", impl.ReadLine, 1},
		{"a name and a space", "mov \nhalt\n", impl.ReadLine, 1},
		{"an operand too few", "add r1, r2\nhalt\n", impl.ReadLine, 1},
		{"an operand too many", "mov r1, r2, r3\nhalt\n", impl.ReadLine, 1},
		{"an operand of halt", "halt r1\n", impl.ReadLine, 1},
		{"no space behind the comma", "mov r1,r2\nhalt\n", impl.ReadLine, 1},
		{"a space ahead of the comma", "mov r1 , r2\nhalt\n", impl.ReadLine, 1},
		{"two spaces", "mov  r1, r2\nhalt\n", impl.ReadLine, 1},
		{"no space behind the name", "movr1, r2\nhalt\n", impl.ReadLine, 1},
		{"a space behind", "halt \n", impl.ReadLine, 1},
		{"a space in front", " halt\n", impl.ReadLine, 1},
		{"a tab", "mov\tr1, r2\nhalt\n", impl.ReadLine, 1},
		{"capitals", "HALT\n", impl.ReadLine, 1},
		{"a remark", "halt ; h0\n", impl.ReadLine, 1},
		{"a load with no heaplet", "ldb r1, [r2 + 3]\nhalt\n", impl.ReadLine, 1},
		{"a load with no remark's number", "ldb r1, [r2 + 3] ; h\nhalt\n", impl.ReadLine, 1},
		{"a load of an op with an index", "ldbx r1, [r2 + 3] ; h0\nhalt\n", impl.ReadLine, 1},
		{"an index of an op with a number", "ldb r1, [r2 + r3] ; h0\nhalt\n", impl.ReadLine, 1},
		{"a load with its operands as a store", "ldb [r2 + 3], r1 ; h0\nhalt\n", impl.ReadLine, 1},
		{"a store with its operands as a load", "stb r1, [r2 + 3] ; h0\nhalt\n", impl.ReadLine, 1},
		{"a minus for a plus", "ldb r1, [r2 - 3] ; h0\nhalt\n", impl.ReadLine, 1},
		{"a heaplet of gas", "ldb r1, [r2 + 3] # h0\nhalt\n", impl.ReadLine, 1},
		{"a register for a number", "movi r1, r2\nhalt\n", impl.ReadLine, 1},
		{"a number for a register", "mov r1, 2\nhalt\n", impl.ReadLine, 1},
		{"a jump to a number", "jmp 0\nhalt\n", impl.ReadLine, 1},
		{"a jump to a label of gas", "jmp .L1\nhalt\n", impl.ReadLine, 1},
		{"a jump to a label with its colon", "L1:\njmp L1:\nhalt\n", impl.ReadLine, 2},
		{"a label twice", "L5:\nL5:\nhalt\n", impl.ReadTwice, 2},
		{"a label twice, apart", "L5:\nhalt\nhalt\nL5:\nhalt\n", impl.ReadTwice, 4},
		{"a label three times", "L5:\nL5:\nL5:\nhalt\n", impl.ReadTwice, 2},
		{"a label twice, at the end", "L5:\nhalt\nL5:\n", impl.ReadTwice, 3},
		{"label 0 twice", "L0:\nhalt\nL0:\nhalt\n", impl.ReadTwice, 3},
		{"a label twice ahead of a wrong line", "L5:\nL5:\nx\n", impl.ReadTwice, 2},
		{"a label twice behind a wrong line", "x\nL5:\nL5:\n", impl.ReadLine, 1},
		{"a wrong line between the two", "L5:\nx\nL5:\n", impl.ReadLine, 2},
		{"a label twice ahead of no newline", "L5:\nL5:\nhalt", impl.ReadTwice, 2},
		{"a label twice without a newline", "L5:\nL5:", impl.ReadLine, 2},
		{"two wrong lines", "halt\nx\ny\n", impl.ReadLine, 2},
		{"a label behind the end", "halt\nL1:\n", impl.ReadLabel, 2},
		{"two labels behind the end", "halt\nL1:\nL2:\n", impl.ReadLabel, 2},
		{"only a label", "L1:\n", impl.ReadLabel, 1},
		{"only labels", "L1:\nL2:\n", impl.ReadLabel, 1},
		{"a jump to no label", "jmp L1\nhalt\n", impl.ReadLabel, 1},
		{"a jump to another label", "L2:\njmp L1\nhalt\n", impl.ReadLabel, 2},
		{"a jump to a label behind the end", "jmp L1\nhalt\nL1:\n", impl.ReadLabel, 1},
		{"a jump behind a label behind nothing", "jmp L1\nL2:\nhalt\nL1:\nL3:\n", impl.ReadLabel, 1},
		{"a good jump, then one to no label", "jmp L1\njz L7\nL1:\nhalt\n", impl.ReadLabel, 2},
		{"two jumps to no label", "halt\njz L7\njz L8\nhalt\n", impl.ReadLabel, 2},
		{"a jump to no label and a label behind the end", "halt\njz L7\nhalt\nL1:\n", impl.ReadLabel, 2},
		{"a jump to no label ahead of a wrong line", "jmp L1\nhalt\nx\n", impl.ReadLine, 3},
		{"a jump to no label ahead of a label twice", "jmp L1\nL2:\nhalt\nL2:\nhalt\n", impl.ReadTwice, 4},
		{"a jump to no label ahead of no newline", "jmp L1\nhalt", impl.ReadLine, 2},
		{"a label behind the end, then no newline", "halt\nL1:\nL2:", impl.ReadLine, 3},
		{"a jump to no label in a program with no halt", "jmp L1\n", impl.ReadLabel, 1},
		{"no halt at the end", "mov r1, r2\n", impl.ReadFlat, 0},
		{"a halt ahead of the end", "halt\nmov r1, r2\n", impl.ReadFlat, 0},
		{"a jump at the end", "L1:\nhalt\njmp L1\n", impl.ReadFlat, 0},
	}
	for _, r := range rows {
		got := impl.ReadAsm([]byte(r.text), impl.Masm)
		if got.Err != r.err || got.Line != r.line || len(got.Prog) != 0 {
			t.Errorf("%s: error %d at line %d, want %d at line %d", r.name, got.Err, got.Line, r.err, r.line)
		}
	}
}

func TestReadGasErrors(t *testing.T) {
	for _, line := range []string{
		"mov r2, r1", "mov %r2, r1", "mov r2, %r1", "mov %r2,%r1", "mov %r2 %r1", "mov %%r2, %r1", "movi 1, %r1", "movi %r1, $1", "movi $$1, %r1", "movi $ 1, %r1", "cmpi $1, %r1",
		"ldb $16(%r1), %r2 # h0", "ldb (%r1), %r2 # h0", "ldb 16 (%r1), %r2 # h0", "ldb 16(%r1), %r2 ; h0", "ldb 16(%r1), %r2", "ldb 16(%r1), %r2 #h0", "ldb 16(%r1), %r2  # h0", "ldb 16(%r1), %r2 # h8",
		"ldb %r2, 16(%r1) # h0", "stb 16(%r1), %r2 # h0", "ldbx (%r1, %r3), %r2 # h0", "ldbx 0(%r1,%r3), %r2 # h0", "stqx (%r1,%r3), %r2 # h1", "ldb (%r1,%r3), %r2 # h0", "ldbx 16(%r1), %r2 # h0",
		"jz L0", "jz .l0", "jz $0", "jz .L", "jz 0", "halt # h0", "halt .L0",
	} {
		wantError(t, ".L0:\nhalt\n"+line+"\nhalt\n", impl.Gas, impl.ReadLine, 3)
	}
	wantError(t, "jz .L1\nhalt\n.L2:\n", impl.Gas, impl.ReadLabel, 1)
	wantError(t, "halt\n.L2:\n", impl.Gas, impl.ReadLabel, 2)
	wantError(t, ".L2:\n.L3:\n.L2:\nhalt\n", impl.Gas, impl.ReadTwice, 3)
	wantError(t, "mov %r1, %r2\n", impl.Gas, impl.ReadFlat, 0)
}

func TestReadLabelsInFront(t *testing.T) {
	mov := impl.Ins{Op: impl.OpMov, D: 1, A: 2}
	wantRead(t, "L5:\nL6:\nmov r1, r2\nL7:\njz L6\njc L7\nL0:\nL1:\nL2:\njmp L5\njnz L1\nhalt\n", impl.Masm, impl.AsmRes{Prog: []impl.Ins{mov, {Op: impl.OpJz, Imm: 0}, {Op: impl.OpJc, Imm: 1}, {Op: impl.OpJmp, Imm: 0}, {Op: impl.OpJnz, Imm: 3}, halt}})
	wantRead(t, "jmp .L9\n.L9:\n.L8:\nhalt\n", impl.Gas, impl.AsmRes{Prog: []impl.Ins{{Op: impl.OpJmp, Imm: 1}, halt}})
	wantRead(t, "L3:\nhalt\nL2:\nhalt\n", impl.Masm, impl.AsmRes{Prog: []impl.Ins{halt, halt}})
	wantRead(t, "L999999999:\njnz L999999999\nhalt\n", impl.Masm, impl.AsmRes{Prog: []impl.Ins{{Op: impl.OpJnz}, halt}})
}

func TestReadLong(t *testing.T) {
	for _, dialect := range []int64{math.MinInt64, -1, 2, 3, 256, 1 << 32, math.MaxInt64} {
		for _, text := range []string{"", "halt\n", "x", strings.Repeat("x", 100001)} {
			wantError(t, text, dialect, impl.ReadLong, 0)
		}
	}
	for _, dialect := range bothDialects {
		for _, size := range []int{100001, 100002, 250000} {
			wantError(t, strings.Repeat("\n", size), dialect, impl.ReadLong, 0)
			wantError(t, strings.Repeat("halt\n", size/5+1), dialect, impl.ReadLong, 0)
		}
		wantError(t, strings.Repeat("\n", 100000), dialect, impl.ReadLine, 1)
		wantError(t, strings.Repeat("halt\n", 20000), dialect, impl.ReadFlat, 0)
		wantError(t, strings.Repeat("a", 100000), dialect, impl.ReadLine, 1)
		wantError(t, strings.Repeat("7", 100000), dialect, impl.ReadLine, 1)
		wantError(t, "movi r1, "+strings.Repeat("7", 99990), dialect, impl.ReadLine, 1)
	}
}

// A text of just TextMax bytes is read whole, and one byte more is too long.
func TestReadOfTextMax(t *testing.T) {
	var b strings.Builder
	for i := range 9996 {
		b.WriteString("L" + strconv.Itoa(1000000+i) + ":\n")
	}
	b.WriteString("L10000000:\njmp L1000000\nL10000001:\nhalt\n")
	if b.Len() != 100000 {
		t.Fatalf("%d bytes", b.Len())
	}
	wantRead(t, b.String(), impl.Masm, impl.AsmRes{Prog: []impl.Ins{{Op: impl.OpJmp}, halt}})
	wantError(t, b.String()+"\n", impl.Masm, impl.ReadLong, 0)
	wantError(t, b.String()[:99999], impl.Masm, impl.ReadLine, int64(strings.Count(b.String(), "\n")))
}

func TestReadFlatMax(t *testing.T) {
	for _, dialect := range bothDialects {
		wantRead(t, strings.Repeat("halt\n", 2000), dialect, impl.AsmRes{Prog: slices.Repeat([]impl.Ins{halt}, 2000)})
		wantError(t, strings.Repeat("halt\n", 2001), dialect, impl.ReadFlat, 0)
		label := labelText(7, dialect) + "\n"
		jump := lineText(impl.Ins{Op: impl.OpJmp, Imm: 7}, dialect) + "\n"
		want := slices.Repeat([]impl.Ins{halt}, 2000)
		want[0] = impl.Ins{Op: impl.OpJmp, Imm: 1999}
		wantRead(t, jump+strings.Repeat("halt\n", 1998)+label+"halt\n", dialect, impl.AsmRes{Prog: want})
		wantError(t, jump+strings.Repeat("halt\n", 1999)+label+"halt\n", dialect, impl.ReadFlat, 0)
		wantError(t, jump+strings.Repeat("halt\n", 1999)+label, dialect, impl.ReadLabel, 1)
		wantError(t, strings.Repeat("halt\n", 2001)+label, dialect, impl.ReadLabel, 2002)
		wantError(t, strings.Repeat("halt\n", 2001)+"halt", dialect, impl.ReadLine, 2002)
	}
}

// worn is a text after some changes of its bytes and lines.
func worn(random *rand.Rand, text string) string {
	const bytes = "0123456789rhL.:,; #%$()[]+-\nabcdjmoptvxz"
	for range 1 + random.Intn(2) {
		i := random.Intn(len(text) + 1)
		switch random.Intn(5) {
		case 0:
			text = text[:i] + string(bytes[random.Intn(len(bytes))]) + text[i:]
		case 1:
			text = text[:max(i-1, 0)] + text[i:]
		case 2:
			text = text[:max(i-1, 0)] + string(bytes[random.Intn(len(bytes))]) + text[i:]
		case 3:
			lines := strings.SplitAfter(text, "\n")
			i, j := random.Intn(len(lines)), random.Intn(len(lines))
			lines[i], lines[j] = lines[j], lines[i]
			text = strings.Join(lines, "")
		case 4:
			lines := strings.SplitAfter(text, "\n")
			i := random.Intn(len(lines))
			text = strings.Join(slices.Insert(lines, random.Intn(len(lines)), lines[i]), "")
		}
	}
	return text
}

// Texts that are nearly prints are read as the patterns of the forms read them, and what is read is valid.
func TestWornTexts(t *testing.T) {
	random := rand.New(rand.NewSource(7))
	seen := map[int64]int{}
	for range 20000 {
		dialect := random.Int63n(2)
		text := worn(random, programText(wideProg(random, 1+random.Int63n(6)), dialect))
		want := slowRead(text, dialect, formsOf(dialect))
		got := impl.ReadAsm([]byte(text), dialect)
		if !sameAsm(got, want) {
			t.Fatalf("dialect %d, %q:\n got %+v\nwant %+v", dialect, text, got, want)
		}
		if got.Err == impl.ReadOk && !impl.ValidFlat(got.Prog) {
			t.Fatalf("dialect %d, %q: a program that is not valid: %+v", dialect, text, got.Prog)
		}
		seen[got.Err]++
	}
	for _, err := range []int64{impl.ReadOk, impl.ReadLine, impl.ReadTwice, impl.ReadLabel, impl.ReadFlat} {
		if seen[err] < 20 {
			t.Errorf("error %d came %d times", err, seen[err])
		}
	}
}

func TestReadAnswersEveryText(t *testing.T) {
	random := rand.New(rand.NewSource(8))
	for range 20000 {
		text := make([]byte, random.Intn(40))
		for i := range text {
			text[i] = byte(random.Intn(256))
			if random.Intn(2) == 0 {
				text[i] = "halt\nL0:jmp"[random.Intn(11)]
			}
		}
		for _, dialect := range []int64{-1, 0, 1, 2} {
			var got impl.AsmRes
			if p := mayPanic(func() { got = impl.ReadAsm(text, dialect) }); p != nil {
				t.Fatalf("dialect %d, %q: panic: %v", dialect, text, p)
			}
			if got.Err == impl.ReadOk && (!impl.ValidFlat(got.Prog) || got.Line != 0) || got.Err != impl.ReadOk && len(got.Prog) != 0 {
				t.Fatalf("dialect %d, %q: %+v", dialect, text, got)
			}
		}
	}
	wantError(t, "", impl.Gas, impl.ReadFlat, 0)
	if got := impl.ReadAsm(nil, impl.Masm); !sameAsm(got, impl.AsmRes{Err: impl.ReadFlat}) {
		t.Errorf("nil: %+v", got)
	}
}

// Every beginning of a text that is read is answered too.
func TestBeginnings(t *testing.T) {
	prog := []impl.Ins{halt}
	for _, s := range samples() {
		prog = append(prog, s.ins)
	}
	for _, dialect := range bothDialects {
		text := string(impl.PrintAsm(prog, dialect))
		for i := range len(text) + 1 {
			wantRead(t, text[:i], dialect, slowRead(text[:i], dialect, formsOf(dialect)))
		}
	}
}

func TestReadKeepsItsArgument(t *testing.T) {
	random := rand.New(rand.NewSource(9))
	for range 300 {
		for _, dialect := range bothDialects {
			prog := wideProg(random, 1+random.Int63n(30))
			text := programText(prog, dialect)
			given := append(make([]byte, 0, len(text)+50), text...)
			got := impl.ReadAsm(given, dialect)
			fill(given[:len(text)], '!')
			if !slices.Equal(got.Prog, prog) {
				t.Fatalf("the program changes with the text")
			}
			copy(given, text)
			fill(got.Prog, impl.Ins{Op: 99})
			if string(given) != text || slices.ContainsFunc(given[len(text):cap(given)], func(b byte) bool { return b != '!' && b != 0 }) {
				t.Fatalf("the text is changed: %q", given)
			}
			wantRead(t, text, dialect, impl.AsmRes{Prog: prog})
		}
	}
}

// The example of README.md.
func TestReadmeText(t *testing.T) {
	prog := []impl.Ins{{Op: impl.OpLdb, D: 1, A: 0, Imm: 2, H: 0}, {Op: impl.OpAddi, D: 1, A: 1, Imm: 1}, halt}
	text := impl.PrintAsm(prog, impl.Masm)
	if string(text) != "ldb r1, [r0 + 2] ; h0\naddi r1, r1, 1\nhalt\n" {
		t.Errorf("the example: %q", text)
	}
	wantRead(t, string(text), impl.Masm, impl.AsmRes{Prog: prog})
	wantError(t, "L5:\njmp L6\nhalt\n", impl.Masm, impl.ReadLabel, 2)
}
