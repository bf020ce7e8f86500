package tests

import (
	"math"
	"math/rand"
	"slices"
	"strconv"
	"strings"
	"testing"

	"loop.example/s01319/impl"
)

func TestTextConstants(t *testing.T) {
	if !slices.Equal([]int64{impl.Gas, impl.Masm, impl.TextMax}, []int64{0, 1, 100000}) {
		t.Errorf("dialects and the bound of a text")
	}
	if !slices.Equal([]int64{impl.ReadOk, impl.ReadLong, impl.ReadLine, impl.ReadTwice, impl.ReadLabel, impl.ReadFlat}, []int64{0, 1, 2, 3, 4, 5}) {
		t.Errorf("the numbers of the errors")
	}
}

func TestEachOpPrintedAndRead(t *testing.T) {
	for i, s := range samples() {
		if s.ins.Op != int64(i)+1 {
			t.Fatalf("sample %d has op %d", i, s.ins.Op)
		}
		for _, dialect := range bothDialects {
			prog := []impl.Ins{s.ins, halt}
			text := s.in(dialect) + "\nhalt\n"
			if s.ins.Op >= impl.OpJmp && s.ins.Op <= impl.OpJnc {
				text = s.in(dialect) + "\n" + labelText(1, dialect) + "\nhalt\n"
			}
			if got := string(impl.PrintAsm(prog, dialect)); got != text {
				t.Errorf("dialect %d: %q, not %q", dialect, got, text)
			}
			wantRead(t, text, dialect, impl.AsmRes{Prog: prog})
			if s.gas != s.masm {
				wantError(t, text, 1-dialect, impl.ReadLine, 1)
			}
		}
	}
}

// eachBound calls f with instructions of every op that have one field at, in and beside its bounds and the others at theirs.
func eachBound(f func(x impl.Ins)) {
	for _, r := range opRows() {
		for _, field := range []byte(r.fields) {
			low, high := r.bounds(field)
			for _, v := range []int64{low - 1, low, low + 1, -1, 0, 1, high - 1, high, high + 1} {
				for _, others := range []bool{false, true} {
					x := impl.Ins{Op: r.op}
					for _, other := range []byte(r.fields) {
						least, most := r.bounds(other)
						if others {
							least = most
						}
						x = setField(x, other, least)
					}
					f(setField(x, field, v))
				}
			}
		}
	}
}

func TestBoundsOfFields(t *testing.T) {
	eachBound(func(x impl.Ins) {
		prog := []impl.Ins{{Op: impl.OpMov}, x, halt}
		if x.Op >= impl.OpJmp && x.Op <= impl.OpJnc {
			prog = longProg(2000)
			prog[3] = x
		}
		valid := impl.ValidIns(x)
		for _, dialect := range bothDialects {
			got := string(impl.PrintAsm(prog, dialect))
			if !valid {
				if got != "" {
					t.Errorf("dialect %d: a print of %+v", dialect, x)
				}
				continue
			}
			if want := programText(prog, dialect); got != want {
				t.Errorf("dialect %d: %+v is not printed as %q", dialect, x, lineText(x, dialect))
			}
			wantRead(t, got, dialect, impl.AsmRes{Prog: prog})
		}
	})
}

func TestNoPrint(t *testing.T) {
	good := []impl.Ins{{Op: impl.OpMov}, halt}
	for _, dialect := range []int64{math.MinInt64, -2, -1, 2, 3, 256, 1 << 32, math.MaxInt64} {
		if got := impl.PrintAsm(good, dialect); len(got) != 0 {
			t.Errorf("dialect %d: %q", dialect, got)
		}
	}
	for i, prog := range wrongProgs() {
		for _, dialect := range []int64{-1, 0, 1, 2} {
			if got := impl.PrintAsm(prog, dialect); len(got) != 0 {
				t.Errorf("program %d, dialect %d: %q", i, dialect, got)
			}
		}
	}
	for _, x := range []impl.Ins{{Op: -1}, {Op: math.MinInt64}, {Op: impl.OpMov, Imm: 1}, {Op: impl.OpHalt, H: 1}, {Op: impl.OpLdb, H: 8}, {Op: impl.OpAndi, Imm: -1}, {Op: impl.OpShl, Imm: 64}, {Op: impl.OpJmp, Imm: -1}, {Op: impl.OpJz, Imm: math.MaxInt64}} {
		if got := impl.PrintAsm([]impl.Ins{x, halt}, impl.Gas); len(got) != 0 {
			t.Errorf("%+v: %q", x, got)
		}
	}
}

func TestPrintedLabels(t *testing.T) {
	mov := impl.Ins{Op: impl.OpMov}
	rows := []struct {
		name string
		prog []impl.Ins
		masm string
	}{
		{"no jump", []impl.Ins{mov, halt}, "mov r0, r0\nhalt\n"},
		{"to itself", []impl.Ins{{Op: impl.OpJmp, Imm: 0}, halt}, "L0:\njmp L0\nhalt\n"},
		{"to the last", []impl.Ins{{Op: impl.OpJz, Imm: 2}, mov, halt}, "jz L2\nmov r0, r0\nL2:\nhalt\n"},
		{"twice to one", []impl.Ins{{Op: impl.OpJz, Imm: 3}, {Op: impl.OpJnz, Imm: 3}, mov, halt}, "jz L3\njnz L3\nmov r0, r0\nL3:\nhalt\n"},
		{"back and forth", []impl.Ins{mov, {Op: impl.OpJc, Imm: 3}, {Op: impl.OpJnc, Imm: 0}, mov, {Op: impl.OpJmp, Imm: 1}, halt}, "L0:\nmov r0, r0\nL1:\njc L3\njnc L0\nL3:\nmov r0, r0\njmp L1\nhalt\n"},
		{"an Imm that is no jump's", []impl.Ins{{Op: impl.OpMovi, Imm: 1}, {Op: impl.OpLdb, Imm: 0}, {Op: impl.OpCmpi, Imm: 2}, halt}, "movi r0, 1\nldb r0, [r0 + 0] ; h0\ncmpi r0, 2\nhalt\n"},
	}
	for _, r := range rows {
		if got := string(impl.PrintAsm(r.prog, impl.Masm)); got != r.masm {
			t.Errorf("%s: %q", r.name, got)
		}
		gas := string(impl.PrintAsm(r.prog, impl.Gas))
		if got, want := strings.Count(gas, ":"), strings.Count(r.masm, ":"); got != want {
			t.Errorf("%s: %d labels in %q", r.name, got, gas)
		}
		if want := programText(r.prog, impl.Gas); gas != want {
			t.Errorf("%s: %q", r.name, gas)
		}
	}
	far := longProg(2000)
	far[0] = impl.Ins{Op: impl.OpJmp, Imm: 1999}
	for _, dialect := range bothDialects {
		got := string(impl.PrintAsm(far, dialect))
		if want := labelText(1999, dialect) + "\nhalt\n"; !strings.HasSuffix(got, want) || strings.Count(got, ":") != 1 {
			t.Errorf("a label at the end of the longest program, dialect %d", dialect)
		}
	}
}

// wideIns is a valid instruction with fields anywhere within their bounds.
func wideIns(random *rand.Rand, size int64) impl.Ins {
	row := opRows()[random.Intn(34)]
	x := impl.Ins{Op: row.op}
	for _, field := range []byte(row.fields) {
		low, high := row.bounds(field)
		if row.fields == "I" {
			high = size - 1
		}
		if random.Intn(2) == 0 {
			low, high = max(low, -12), min(high, 12)
		}
		x = setField(x, field, low+random.Int63n(high-low+1))
	}
	return x
}

func wideProg(random *rand.Rand, size int64) []impl.Ins {
	prog := make([]impl.Ins, size)
	for i := range prog {
		prog[i] = wideIns(random, size)
	}
	prog[size-1] = halt
	return prog
}

func wantBack(t *testing.T, prog []impl.Ins) {
	t.Helper()
	for _, dialect := range bothDialects {
		text := impl.PrintAsm(prog, dialect)
		if len(text) == 0 || len(text) > impl.TextMax {
			t.Fatalf("dialect %d: a print of %d bytes", dialect, len(text))
		}
		if want := programText(prog, dialect); string(text) != want {
			t.Fatalf("dialect %d:\n got %q\nwant %q", dialect, text, want)
		}
		if got := impl.ReadAsm(text, dialect); !sameAsm(got, impl.AsmRes{Prog: prog}) {
			t.Fatalf("dialect %d: %q comes back with error %d at line %d, as %+v", dialect, text, got.Err, got.Line, got.Prog)
		}
	}
}

func TestPrintsComeBack(t *testing.T) {
	random := rand.New(rand.NewSource(5))
	for range 3000 {
		wantBack(t, wideProg(random, 1+random.Int63n(30)))
	}
	wantBack(t, []impl.Ins{halt})
	wantBack(t, wideProg(random, 1999))
	wantBack(t, wideProg(random, 2000))
	long := longProg(2000)
	for i := range long[:1999] {
		long[i] = impl.Ins{Op: impl.OpStq, D: 7, A: 7, Imm: -1000000, H: 7}
	}
	wantBack(t, long)
	jumps := longProg(2000)
	for i := range jumps[:1999] {
		jumps[i] = impl.Ins{Op: impl.OpJnz, Imm: 1999 - int64(i)}
	}
	wantBack(t, jumps)
}

func TestPrintKeepsItsArgument(t *testing.T) {
	random := rand.New(rand.NewSource(6))
	for range 300 {
		prog := append(make([]impl.Ins, 0, 64), wideProg(random, 1+random.Int63n(30))...)
		old := slices.Clone(prog)
		for _, dialect := range bothDialects {
			first := impl.PrintAsm(prog, dialect)
			want := string(first)
			fill(first, '!')
			if got := string(impl.PrintAsm(prog, dialect)); got != want {
				t.Fatalf("a second print is %q, not %q", got, want)
			}
		}
		if !slices.Equal(prog, old) || slices.ContainsFunc(prog[len(prog):64], func(x impl.Ins) bool { return x != impl.Ins{} }) {
			t.Fatalf("the program is changed: %+v", prog)
		}
	}
}

func TestEveryLabelNumberPrinted(t *testing.T) {
	prog := longProg(2000)
	for i := range prog[:1999] {
		prog[i] = impl.Ins{Op: impl.OpJmp, Imm: int64(i) + 1}
	}
	lines := strings.Split(string(impl.PrintAsm(prog, impl.Masm)), "\n")
	for i := range 1999 {
		if got, want := lines[2*i], "jmp L"+strconv.Itoa(i+1); got != want {
			t.Fatalf("line %d is %q, not %q", 2*i+1, got, want)
		}
		if got, want := lines[2*i+1], "L"+strconv.Itoa(i+1)+":"; got != want {
			t.Fatalf("line %d is %q, not %q", 2*i+2, got, want)
		}
	}
}
