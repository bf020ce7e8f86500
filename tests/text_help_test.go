package tests

import (
	"regexp"
	"slices"
	"strconv"
	"strings"
	"testing"

	"loop.example/s01319/impl"
)

// sample is an instruction with its line in both dialects.
type sample struct {
	ins  impl.Ins
	gas  string
	masm string
}

func (s sample) in(dialect int64) string {
	if dialect == impl.Gas {
		return s.gas
	}
	return s.masm
}

// samples has every op in the order of their numbers; a jump goes to instruction 1.
func samples() []sample {
	return []sample{
		{impl.Ins{Op: 1, D: 1, A: 2}, "mov %r2, %r1", "mov r1, r2"},
		{impl.Ins{Op: 2, D: 6, Imm: -1}, "movi $-1, %r6", "movi r6, -1"},
		{impl.Ins{Op: 3, D: 1, A: 2, B: 3}, "add %r2, %r3, %r1", "add r1, r2, r3"},
		{impl.Ins{Op: 4, D: 2, A: 3, B: 4}, "sub %r3, %r4, %r2", "sub r2, r3, r4"},
		{impl.Ins{Op: 5, D: 3, A: 4, B: 5}, "mul %r4, %r5, %r3", "mul r3, r4, r5"},
		{impl.Ins{Op: 6, D: 4, A: 5, B: 6}, "and %r5, %r6, %r4", "and r4, r5, r6"},
		{impl.Ins{Op: 7, D: 5, A: 6, B: 7}, "or %r6, %r7, %r5", "or r5, r6, r7"},
		{impl.Ins{Op: 8, D: 6, A: 7, B: 0}, "xor %r7, %r0, %r6", "xor r6, r7, r0"},
		{impl.Ins{Op: 9, D: 7, A: 0, B: 1}, "div %r0, %r1, %r7", "div r7, r0, r1"},
		{impl.Ins{Op: 10, D: 2, A: 1, Imm: -5}, "addi %r1, $-5, %r2", "addi r2, r1, -5"},
		{impl.Ins{Op: 11, D: 0, A: 7, Imm: 255}, "andi %r7, $255, %r0", "andi r0, r7, 255"},
		{impl.Ins{Op: 12, D: 3, A: 2, Imm: 63}, "shl %r2, $63, %r3", "shl r3, r2, 63"},
		{impl.Ins{Op: 13, D: 4, A: 3, Imm: 0}, "shr %r3, $0, %r4", "shr r4, r3, 0"},
		{impl.Ins{Op: 14, D: 1, A: 2, B: 3}, "adds %r2, %r3, %r1", "adds r1, r2, r3"},
		{impl.Ins{Op: 15, D: 2, A: 3, B: 4}, "adc %r3, %r4, %r2", "adc r2, r3, r4"},
		{impl.Ins{Op: 16, D: 3, A: 4, B: 5}, "subs %r4, %r5, %r3", "subs r3, r4, r5"},
		{impl.Ins{Op: 17, A: 3, B: 4}, "cmp %r3, %r4", "cmp r3, r4"},
		{impl.Ins{Op: 18, A: 3, Imm: 7}, "cmpi %r3, $7", "cmpi r3, 7"},
		{impl.Ins{Op: 19, D: 5, A: 6, B: 7}, "selz %r6, %r7, %r5", "selz r5, r6, r7"},
		{impl.Ins{Op: 20, D: 6, A: 7, B: 0}, "selc %r7, %r0, %r6", "selc r6, r7, r0"},
		{impl.Ins{Op: 21, D: 2, A: 1, Imm: 16, H: 0}, "ldb 16(%r1), %r2 # h0", "ldb r2, [r1 + 16] ; h0"},
		{impl.Ins{Op: 22, D: 3, A: 2, Imm: -8, H: 1}, "ldq -8(%r2), %r3 # h1", "ldq r3, [r2 + -8] ; h1"},
		{impl.Ins{Op: 23, D: 1, A: 0, Imm: -3, H: 7}, "stb %r1, -3(%r0) # h7", "stb [r0 + -3], r1 ; h7"},
		{impl.Ins{Op: 24, D: 4, A: 5, Imm: 0, H: 6}, "stq %r4, 0(%r5) # h6", "stq [r5 + 0], r4 ; h6"},
		{impl.Ins{Op: 25, D: 1, A: 2, B: 3, H: 2}, "ldbx (%r2,%r3), %r1 # h2", "ldbx r1, [r2 + r3] ; h2"},
		{impl.Ins{Op: 26, D: 3, A: 4, B: 5, H: 0}, "ldqx (%r4,%r5), %r3 # h0", "ldqx r3, [r4 + r5] ; h0"},
		{impl.Ins{Op: 27, D: 5, A: 6, B: 7, H: 3}, "stbx %r5, (%r6,%r7) # h3", "stbx [r6 + r7], r5 ; h3"},
		{impl.Ins{Op: 28, D: 2, A: 1, B: 3, H: 1}, "stqx %r2, (%r1,%r3) # h1", "stqx [r1 + r3], r2 ; h1"},
		{impl.Ins{Op: 29, Imm: 1}, "jmp .L1", "jmp L1"},
		{impl.Ins{Op: 30, Imm: 1}, "jz .L1", "jz L1"},
		{impl.Ins{Op: 31, Imm: 1}, "jnz .L1", "jnz L1"},
		{impl.Ins{Op: 32, Imm: 1}, "jc .L1", "jc L1"},
		{impl.Ins{Op: 33, Imm: 1}, "jnc .L1", "jnc L1"},
		{impl.Ins{Op: 34}, "halt", "halt"},
	}
}

// The rows and the samples by op, made once for tests that write much text.
var rowOf, sampleOf = opRows(), samples()

// bothDialects are the numbers of the dialects.
var bothDialects = []int64{impl.Gas, impl.Masm}

// labelText is a label's line, without its newline.
func labelText(number int64, dialect int64) string {
	if dialect == impl.Gas {
		return ".L" + strconv.FormatInt(number, 10) + ":"
	}
	return "L" + strconv.FormatInt(number, 10) + ":"
}

// lineText writes an instruction, valid or not, as the document says, by its fields.
func lineText(x impl.Ins, dialect int64) string {
	row := rowOf[x.Op-1]
	name, _, _ := strings.Cut(sampleOf[x.Op-1].masm, " ")
	text := func(v int64) string { return strconv.FormatInt(v, 10) }
	d, a, b, imm, h, l := "r"+text(x.D), "r"+text(x.A), "r"+text(x.B), text(x.Imm), "h"+text(x.H), "L"+text(x.Imm)
	store := strings.HasPrefix(name, "st")
	if dialect == impl.Gas {
		d, a, b, l = "%"+d, "%"+a, "%"+b, "."+l
		forms := map[string]string{
			"DA": a + ", " + d, "DI": "$" + imm + ", " + d, "DAB": a + ", " + b + ", " + d, "DAI": a + ", $" + imm + ", " + d, "AB": a + ", " + b, "AI": a + ", $" + imm, "I": l,
		}
		memory := map[string]string{"DAIH": imm + "(" + a + ")", "DABH": "(" + a + "," + b + ")"}[row.fields]
		switch {
		case row.fields == "":
			return name
		case memory != "" && store:
			return name + " " + d + ", " + memory + " # " + h
		case memory != "":
			return name + " " + memory + ", " + d + " # " + h
		}
		return name + " " + forms[row.fields]
	}
	forms := map[string]string{
		"DA": d + ", " + a, "DI": d + ", " + imm, "DAB": d + ", " + a + ", " + b, "DAI": d + ", " + a + ", " + imm, "AB": a + ", " + b, "AI": a + ", " + imm, "I": l,
	}
	memory := map[string]string{"DAIH": "[" + a + " + " + imm + "]", "DABH": "[" + a + " + " + b + "]"}[row.fields]
	switch {
	case row.fields == "":
		return name
	case memory != "" && store:
		return name + " " + memory + ", " + d + " ; " + h
	case memory != "":
		return name + " " + d + ", " + memory + " ; " + h
	}
	return name + " " + forms[row.fields]
}

// programText prints a valid program by lineText.
func programText(prog []impl.Ins, dialect int64) string {
	var b strings.Builder
	targets := map[int64]bool{}
	for _, x := range prog {
		if x.Op >= 29 && x.Op <= 33 {
			targets[x.Imm] = true
		}
	}
	for i, x := range prog {
		if targets[int64(i)] {
			b.WriteString(labelText(int64(i), dialect) + "\n")
		}
		b.WriteString(lineText(x, dialect) + "\n")
	}
	return b.String()
}

// lineForm finds the fields of a line of one op: field i of the pattern's groups is fields[i].
type lineForm struct {
	op      int64
	pattern *regexp.Regexp
	fields  string
}

// lineForms are all forms of a dialect, made of the samples: each number in a sample becomes a group.
func lineForms(dialect int64) []lineForm {
	number := regexp.MustCompile(`(%?r|h|\.?L|)(-?[0-9]+)`)
	var forms []lineForm
	for _, s := range samples() {
		row := opRows()[s.ins.Op-1]
		line := s.in(dialect)
		pattern := number.ReplaceAllStringFunc(regexp.QuoteMeta(line), func(found string) string {
			digits := strings.TrimLeft(found, `%r.\Lh`)
			head := strings.TrimSuffix(found, digits)
			if head == "" {
				return `(0|-?[1-9][0-9]{0,8})`
			}
			return head + `(0|[1-9][0-9]{0,8})`
		})
		forms = append(forms, lineForm{s.ins.Op, regexp.MustCompile(`\A` + pattern + `\z`), fieldOrder(row.fields, s.ins.Op, dialect)})
	}
	return forms
}

// fieldOrder is the order in which a dialect writes an op's fields.
func fieldOrder(fields string, op, dialect int64) string {
	store := op == 23 || op == 24 || op == 27 || op == 28
	switch {
	case dialect == impl.Masm && store:
		return map[string]string{"DAIH": "AIDH", "DABH": "ABDH"}[fields]
	case dialect == impl.Masm:
		return fields
	case fields == "DAIH" && store:
		return "DIAH"
	case fields == "DAIH":
		return "IADH"
	case fields == "DABH" && store:
		return "DABH"
	case fields == "DABH":
		return "ABDH"
	case strings.HasPrefix(fields, "D"):
		return fields[1:] + "D"
	}
	return fields
}

var (
	gasLabel  = regexp.MustCompile(`\A\.L(0|[1-9][0-9]{0,8}):\z`)
	masmLabel = regexp.MustCompile(`\AL(0|[1-9][0-9]{0,8}):\z`)
)

// slowRead is ReadAsm once more, by patterns, for lines that are matched against every form.
func slowRead(text string, dialect int64, forms []lineForm) impl.AsmRes {
	var lines []impl.Ins
	labels := map[int64]int64{}
	size := int64(0)
	label := map[int64]*regexp.Regexp{impl.Gas: gasLabel, impl.Masm: masmLabel}[dialect]
	pieces := strings.SplitAfter(text, "\n")
	for i, piece := range pieces {
		if piece == "" && i == len(pieces)-1 {
			break
		}
		at := int64(i) + 1
		line, ended := strings.CutSuffix(piece, "\n")
		if !ended {
			return impl.AsmRes{Err: impl.ReadLine, Line: at}
		}
		if found := label.FindStringSubmatch(line); found != nil {
			number, _ := strconv.ParseInt(found[1], 10, 64)
			if _, twice := labels[number]; twice {
				return impl.AsmRes{Err: impl.ReadTwice, Line: at}
			}
			labels[number] = size
			lines = append(lines, impl.Ins{Imm: number})
			continue
		}
		x, ok := slowLine(line, forms)
		if !ok {
			return impl.AsmRes{Err: impl.ReadLine, Line: at}
		}
		lines = append(lines, x)
		size++
	}
	var prog []impl.Ins
	for i, x := range lines {
		if x.Op == 0 || x.Op >= 29 && x.Op <= 33 {
			target, ok := labels[x.Imm]
			if !ok || target >= size {
				return impl.AsmRes{Err: impl.ReadLabel, Line: int64(i) + 1}
			}
			x.Imm = target
		}
		if x.Op != 0 {
			prog = append(prog, x)
		}
	}
	if !impl.ValidFlat(prog) {
		return impl.AsmRes{Err: impl.ReadFlat}
	}
	return impl.AsmRes{Prog: prog}
}

func slowLine(line string, forms []lineForm) (impl.Ins, bool) {
	for _, f := range forms {
		found := f.pattern.FindStringSubmatch(line)
		if found == nil {
			continue
		}
		x := impl.Ins{Op: f.op}
		for i, field := range []byte(f.fields) {
			v, _ := strconv.ParseInt(found[i+1], 10, 64)
			x = setField(x, field, v)
		}
		asked := x
		if x.Op >= 29 && x.Op <= 33 {
			asked.Imm = 0
		}
		return x, impl.ValidIns(asked)
	}
	return impl.Ins{}, false
}

func sameAsm(a, b impl.AsmRes) bool {
	return a.Err == b.Err && a.Line == b.Line && slices.Equal(a.Prog, b.Prog)
}

// wantRead holds ReadAsm of a text against an error with its line, or against a program.
func wantRead(t *testing.T, text string, dialect int64, want impl.AsmRes) {
	t.Helper()
	if got := impl.ReadAsm([]byte(text), dialect); !sameAsm(got, want) {
		if len(text) > 200 {
			text = text[:200] + ".."
		}
		t.Errorf("dialect %d, %q: error %d at line %d, %d instructions; want error %d at line %d, %d instructions",
			dialect, text, got.Err, got.Line, len(got.Prog), want.Err, want.Line, len(want.Prog))
	}
}

func wantError(t *testing.T, text string, dialect int64, err, line int64) {
	t.Helper()
	wantRead(t, text, dialect, impl.AsmRes{Err: err, Line: line})
}
