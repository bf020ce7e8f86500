package tests

import (
	"math"
	"math/rand"
	"slices"
	"strings"
	"testing"

	"loop.example/s01319/impl"
)

// wantPrint asks for a source's print, and that the source comes back from it.
func wantPrint(t *testing.T, name string, s impl.Source, want string) {
	t.Helper()
	if got := string(impl.PrintSource(s)); got != want {
		t.Errorf("%s:\n got %q\nwant %q", name, shorten(got), shorten(want))
	}
	if slow := slowSourceText(s); slow != want {
		t.Errorf("%s: the slow print is %q", name, shorten(slow))
	}
	wantSource(t, name, want, s)
}

const plainRegs = "reg 0 0 public\nreg 1 0 public\nreg 2 0 public\nreg 3 0 public\nreg 4 0 public\nreg 5 0 public\nreg 6 0 public\nreg 7 0 public\n"

// plainSource has no heaplets, public zeros for registers, and the given bodies.
func plainSource(bodies ...[]impl.Stmt) impl.Source {
	return impl.Source{Sig: impl.Sig{Regs: make([]impl.Val, 8)}, Procs: unitOf(bodies...)}
}

func TestPrintSourceForms(t *testing.T) {
	const ahead = "dialect gas\n" + plainRegs
	wantPrint(t, "the least", plainSource(nil), ahead+"proc\n")
	masm := plainSource(nil)
	masm.Dialect = impl.Masm
	wantPrint(t, "masm", masm, "dialect masm\n"+plainRegs+"proc\n")
	rows := []struct {
		body []impl.Stmt
		want string
	}{
		{list(ifStmt(1, 0, 0)), "if z\nend\n"},
		{list(ifStmt(2, 1, 0), movStmt), "if nz\nmov r0, r0\nend\n"},
		{list(ifStmt(3, 0, 1), movStmt), "if c\nelse\nmov r0, r0\nend\n"},
		{list(ifStmt(4, 1, 1), movStmt, movOf(1, 2)), "if nc\nmov r0, r0\nelse\nmov r1, r2\nend\n"},
		{list(whileStmt(1, 0)), "while z\nend\n"},
		{list(whileStmt(2, 1), movStmt, movOf(1, 2)), "while nz\nmov r0, r0\nend\nmov r1, r2\n"},
		{list(whileStmt(3, 3), whileStmt(4, 2), whileStmt(1, 1), movStmt), "while c\nwhile nc\nwhile z\nmov r0, r0\nend\nend\nend\n"},
		{list(whileStmt(3, 3), movStmt, whileStmt(4, 1), movOf(1, 2), movStmt), "while c\nmov r0, r0\nwhile nc\nmov r1, r2\nend\nend\nmov r0, r0\n"},
		{list(ifStmt(1, 1, 2), ifStmt(2, 0, 0), ifStmt(3, 0, 1), whileStmt(4, 0)), "if z\nif nz\nend\nelse\nif c\nelse\nwhile nc\nend\nend\nend\n"},
		{list(ifStmt(1, 1, 1), callStmt(1), callStmt(2), whileStmt(1, 1), callStmt(2)), "if z\ncall 1\nelse\ncall 2\nend\nwhile z\ncall 2\nend\n"},
	}
	for _, row := range rows {
		wantPrint(t, "blocks", plainSource(row.body, nil, nil), ahead+"proc\n"+row.want+"proc\nproc\n")
	}
	for _, s := range samples()[:28] {
		wantPrint(t, "an op", plainSource(nil, list(doStmt(s.ins))), ahead+"proc\nproc\n"+s.masm+"\n")
		masm.Procs = unitOf(list(doStmt(s.ins)))
		wantPrint(t, "an op", masm, "dialect masm\n"+plainRegs+"proc\n"+s.masm+"\n")
	}
	wantPrint(t, "an empty procedure between others", plainSource(list(callStmt(2)), nil, list(movStmt)), ahead+"proc\ncall 2\nproc\nproc\nmov r0, r0\n")
	wantPrint(t, "20 procedures", plainSource(make([][]impl.Stmt, 20)...), ahead+strings.Repeat("proc\n", 20))
	wantPrint(t, "a procedure of 500", plainSource(times(500, movStmt)), ahead+"proc\n"+strings.Repeat("mov r0, r0\n", 500))
	wantPrint(t, "16 deep", plainSource(nested(16, impl.SWhile)), ahead+"proc\n"+strings.Repeat("while z\n", 16)+strings.Repeat("end\n", 16))
}

func TestPrintSourceSig(t *testing.T) {
	s := plainSource(nil)
	s.Sig = impl.Sig{
		Heaps: []impl.HeapSig{{Size: 1}, {Size: 4096, Write: true}, {Size: 10, Secret: true}, {Size: 40, Secret: true, Write: true}, {Size: 1}, {Size: 1}, {Size: 1}, {Size: 1}},
		Regs:  []impl.Val{num(-1), hidden(-1), num(0), hidden(0), num(farthest), hidden(farthest), ptr(7, -farthest, farthest), ptr(0, 0, 0)},
	}
	want := "dialect gas\nheap 1 public read\nheap 4096 public write\nheap 10 secret read\nheap 40 secret write\n" + strings.Repeat("heap 1 public read\n", 4) +
		"reg 0 any public\nreg 1 any secret\nreg 2 0 public\nreg 3 0 secret\nreg 4 1099511627776 public\nreg 5 1099511627776 secret\nreg 6 ptr 7 -1099511627776 1099511627776\nreg 7 ptr 0 0 0\nproc\n"
	wantPrint(t, "a sig", s, want)
	for i := range 8 {
		for _, v := range append(someVals(), ptr(3, -2, -1), ptr(2, -1, 0), ptr(1, 1, 2)) {
			each := plainSource(list(movStmt))
			each.Sig = plainSig()
			each.Sig.Regs[i] = v
			text := slowSourceText(each)
			wantPrint(t, "a Val", each, text)
		}
	}
}

func TestPrintSourceEmpty(t *testing.T) {
	rows := []struct {
		name   string
		change func(s *impl.Source)
	}{
		{"dialect -1", func(s *impl.Source) { s.Dialect = -1 }},
		{"dialect 2", func(s *impl.Source) { s.Dialect = 2 }},
		{"the largest dialect", func(s *impl.Source) { s.Dialect = math.MaxInt64 }},
		{"the smallest dialect", func(s *impl.Source) { s.Dialect = math.MinInt64 }},
		{"a dialect that is 0 in 32 bits", func(s *impl.Source) { s.Dialect = 1 << 32 }},
		{"a size of 0", func(s *impl.Source) { s.Sig.Heaps[0].Size = 0 }},
		{"a size below 0", func(s *impl.Source) { s.Sig.Heaps[3].Size = -1 }},
		{"a size too large", func(s *impl.Source) { s.Sig.Heaps[1].Size = 4097 }},
		{"9 heaplets", func(s *impl.Source) {
			s.Sig.Heaps = slices.Concat(s.Sig.Heaps, s.Sig.Heaps, []impl.HeapSig{{Size: 1}})
		}},
		{"7 registers", func(s *impl.Source) { s.Sig.Regs = s.Sig.Regs[:7] }},
		{"9 registers", func(s *impl.Source) { s.Sig.Regs = append(s.Sig.Regs, num(0)) }},
		{"no registers", func(s *impl.Source) { s.Sig.Regs = nil }},
		{"no such Val", func(s *impl.Source) { s.Sig.Regs[1].Kind = 2 }},
		{"a Max of -2", func(s *impl.Source) { s.Sig.Regs[1] = num(-2) }},
		{"a Max too large", func(s *impl.Source) { s.Sig.Regs[1] = num(farthest + 1) }},
		{"a number with an H", func(s *impl.Source) { s.Sig.Regs[1].H = 1 }},
		{"a pointer that is secret", func(s *impl.Source) { s.Sig.Regs[1] = impl.Val{Kind: 1, Secret: true} }},
		{"a pointer to no heaplet", func(s *impl.Source) { s.Sig.Regs[1] = ptr(4, 0, 0) }},
		{"a pointer with Lo above Hi", func(s *impl.Source) { s.Sig.Regs[1] = ptr(0, 1, 0) }},
		{"a pointer too far", func(s *impl.Source) { s.Sig.Regs[1] = ptr(0, 0, farthest+1) }},
		{"no procedures", func(s *impl.Source) { s.Procs = nil }},
		{"21 procedures", func(s *impl.Source) { s.Procs = make([]impl.Proc, 21) }},
		{"501 statements", func(s *impl.Source) { s.Procs[1].Body = times(501, movStmt) }},
		{"no such statement", func(s *impl.Source) { s.Procs[1].Body[0] = impl.Stmt{} }},
		{"an instruction that is not valid", func(s *impl.Source) { s.Procs[1].Body[0].Ins.D = 8 }},
		{"a halt", func(s *impl.Source) { s.Procs[0].Body[0] = doStmt(halt) }},
		{"a jump", func(s *impl.Source) { s.Procs[0].Body[0] = doStmt(impl.Ins{Op: impl.OpJmp}) }},
		{"a block that is not whole", func(s *impl.Source) { s.Procs[1].Body[1] = ifStmt(1, 2, 0) }},
		{"an Else that is not whole", func(s *impl.Source) { s.Procs[1].Body[1] = ifStmt(1, 0, 2) }},
		{"a Then below 0", func(s *impl.Source) { s.Procs[1].Body[1] = ifStmt(1, -1, 0) }},
		{"no condition", func(s *impl.Source) { s.Procs[1].Body[1] = whileStmt(0, 0) }},
		{"condition 5", func(s *impl.Source) { s.Procs[1].Body[1] = whileStmt(5, 0) }},
		{"17 deep", func(s *impl.Source) { s.Procs[1].Body = nested(17, impl.SIf) }},
		{"a call of itself", func(s *impl.Source) { s.Procs[0].Body[0] = callStmt(0) }},
		{"a call back", func(s *impl.Source) { s.Procs[1].Body[0] = callStmt(0) }},
		{"a call of none", func(s *impl.Source) { s.Procs[0].Body[0] = callStmt(2) }},
		{"a flat program that is too long", func(s *impl.Source) {
			s.Procs = unitOf(times(4, callStmt(1)), times(500, movStmt))
		}},
		{"all of it", func(s *impl.Source) { *s = impl.Source{Dialect: 9} }},
		{"nothing", func(s *impl.Source) { *s = impl.Source{} }},
	}
	right := func() impl.Source {
		return impl.Source{Sig: plainSig(), Procs: unitOf(list(callStmt(1)), list(movStmt, ifStmt(1, 1, 0), movStmt))}
	}
	if len(impl.PrintSource(right())) == 0 {
		t.Fatalf("the source itself is not printed")
	}
	for _, row := range rows {
		s := right()
		row.change(&s)
		if got := impl.PrintSource(s); len(got) != 0 {
			t.Errorf("%s: %q", row.name, shorten(string(got)))
		}
	}
}

// Texts with the same source as another are printed as that one.
func TestPrintSourceOfOtherTexts(t *testing.T) {
	const secretRegs = "reg 0 any secret\nreg 1 any secret\nreg 2 any secret\nreg 3 any secret\nreg 4 any secret\nreg 5 any secret\nreg 6 any secret\nreg 7 any secret\n"
	rows := [][2]string{
		{"dialect gas\nproc\n", "dialect gas\n" + secretRegs + "proc\n"},
		{"dialect gas\nreg 7 any secret\nreg 3 any secret\nproc\n", "dialect gas\n" + secretRegs + "proc\n"},
		{"dialect masm\nheap 8 public read\nreg 7 0 public\nreg 2 ptr 0 -1 1\nproc\n", "dialect masm\nheap 8 public read\n" + strings.Replace(strings.Replace(secretRegs, "2 any secret", "2 ptr 0 -1 1", 1), "7 any secret", "7 0 public", 1) + "proc\n"},
		{"dialect gas\nproc\nif z\nelse\nend\n", "dialect gas\n" + secretRegs + "proc\nif z\nend\n"},
		{"dialect gas\nproc\nif z\nmov r1, r2\nelse\nend\n", "dialect gas\n" + secretRegs + "proc\nif z\nmov r1, r2\nend\n"},
		{"dialect gas\nproc\nwhile z\nif z\nelse\nif c\nelse\nend\nend\nend\n", "dialect gas\n" + secretRegs + "proc\nwhile z\nif z\nelse\nif c\nend\nend\nend\n"},
		{everyForm, strings.Replace(everyForm, "reg 7 any public\nreg 0 ptr 0 0 0\nreg 1 ptr 1 -3 5\nreg 2 7 public\nreg 3 255 secret\nreg 5 any secret\nreg 6 ptr 2 -4 -1\n", "reg 0 ptr 0 0 0\nreg 1 ptr 1 -3 5\nreg 2 7 public\nreg 3 255 secret\nreg 4 any secret\nreg 5 any secret\nreg 6 ptr 2 -4 -1\nreg 7 any public\n", 1)},
	}
	for _, row := range rows {
		read := impl.ParseSource([]byte(row[0]))
		if read.Line != 0 {
			t.Fatalf("%q: line %d", row[0], read.Line)
		}
		wantPrint(t, "another text", read.Source, row[1])
	}
}

// sourceOfSize is a source whose print has so many bytes: its lines are movi, with numbers as long as it needs.
func sourceOfSize(size int) impl.Source {
	s := plainSource(make([][]impl.Stmt, 20)...)
	left := size - len(slowSourceText(s))
	count := left / len("movi r0, 0\n")
	extra := left % len("movi r0, 0\n")
	for i := range count {
		number := int64(0)
		if i < extra {
			number = 10
		}
		p := &s.Procs[i%20]
		p.Body = append(p.Body, moviStmt(0, number))
	}
	return s
}

func TestPrintSourceTextMax(t *testing.T) {
	for _, size := range []int{99990, 99999, 100000} {
		s := sourceOfSize(size)
		text := impl.PrintSource(s)
		if len(text) != size || !sameSourceRes(impl.ParseSource(text), impl.SourceRes{Source: s}) {
			t.Errorf("%d bytes do not come back", len(text))
		}
	}
	for _, size := range []int{100001, 100002, 105000} {
		s := sourceOfSize(size)
		text := impl.PrintSource(s)
		if string(text) != slowSourceText(s) || !sameSourceRes(impl.ParseSource(text), impl.SourceRes{Line: -1}) {
			t.Errorf("a print of %d bytes", len(text))
		}
	}
	wide := plainSource(times(500, doStmt(impl.Ins{Op: impl.OpStb, D: 7, A: 7, Imm: -1000000, H: 7})))
	for range 19 {
		wide.Procs = append(wide.Procs, impl.Proc{Body: slices.Clone(wide.Procs[0].Body)})
	}
	if got := string(impl.PrintSource(wide)); len(got) < 280000 || got != slowSourceText(wide) {
		t.Errorf("the longest print has %d bytes", len(got))
	}
}

// Promise 12 of sources of all sorts.
func TestPrintSourceComesBack(t *testing.T) {
	random := rand.New(rand.NewSource(55))
	for range 6000 {
		s := impl.Source{Dialect: random.Int63n(2), Sig: randomSig(random), Procs: randomUnit(random, 1+random.Int63n(5))}
		if random.Intn(3) == 0 {
			s = randomSource(random)
		}
		text := impl.PrintSource(s)
		if impl.CheckUnit(s.Procs).Err != impl.UnitOk || !impl.ValidSig(s.Sig) {
			if len(text) != 0 {
				t.Fatalf("%+v is not valid, but printed: %q", s, text)
			}
			continue
		}
		if string(text) != slowSourceText(s) {
			t.Fatalf("%+v is printed as %q", s, text)
		}
		back := impl.ParseSource(text)
		if !sameSourceRes(back, impl.SourceRes{Source: s}) {
			t.Fatalf("%q: %+v, not %+v", text, back, s)
		}
		if again := impl.PrintSource(back.Source); string(again) != string(text) {
			t.Fatalf("%q is printed as %q", text, again)
		}
	}
}

func TestPrintSourceKeepsItsArgument(t *testing.T) {
	s := everySource()
	s.Sig.Heaps = append(make([]impl.HeapSig, 0, 9), s.Sig.Heaps...)
	s.Sig.Regs = append(make([]impl.Val, 0, 12), s.Sig.Regs...)
	for i, p := range s.Procs {
		s.Procs[i].Body = append(make([]impl.Stmt, 0, 30), p.Body...)
	}
	old := cloneSource(s)
	first := impl.PrintSource(s)
	text := string(first)
	fill(first, 'x')
	if !sameSig(s.Sig, old.Sig) || !sameUnit(s.Procs, old.Procs) || !slices.Equal(s.Sig.Regs[:12][8:], make([]impl.Val, 4)) || !slices.Equal(s.Sig.Heaps[:9][4:], make([]impl.HeapSig, 5)) {
		t.Fatalf("the source is changed")
	}
	second := impl.PrintSource(s)
	fill(s.Sig.Heaps, impl.HeapSig{})
	fill(s.Sig.Regs, impl.Val{})
	fill(s.Procs[0].Body, impl.Stmt{})
	if string(second) != text {
		t.Fatalf("the text shares memory")
	}
	if got := impl.PrintSource(impl.Source{}); len(got) != 0 {
		t.Fatalf("%q", got)
	}
}

// Sources of any numbers are answered.
func TestPrintSourceOfNonsense(t *testing.T) {
	random := rand.New(rand.NewSource(56))
	pick := func() int64 {
		return []int64{0, 1, 2, 3, 4, -1, 7, 8, 500, math.MaxInt64, math.MinInt64, random.Int63()}[random.Intn(12)]
	}
	for range 20000 {
		s := impl.Source{Dialect: random.Int63n(3) - random.Int63n(2)}
		for range random.Intn(10) {
			s.Sig.Heaps = append(s.Sig.Heaps, impl.HeapSig{Size: pick(), Secret: random.Intn(2) == 0})
		}
		for range 7 + random.Intn(3) {
			s.Sig.Regs = append(s.Sig.Regs, impl.Val{Kind: pick(), Max: pick(), H: pick(), Lo: pick(), Hi: pick()})
		}
		if random.Intn(2) == 0 {
			s.Sig = plainSig()
		}
		for range random.Intn(3) {
			var body []impl.Stmt
			for range random.Intn(4) {
				body = append(body, impl.Stmt{Kind: 1 + random.Int63n(4), Cond: pick(), Then: pick(), Else: pick(), Proc: pick()})
			}
			s.Procs = append(s.Procs, impl.Proc{Body: body})
		}
		var got []byte
		if p := mayPanic(func() { got = impl.PrintSource(s) }); p != nil {
			t.Fatalf("%+v: panic: %v", s, p)
		}
		valid := (s.Dialect == 0 || s.Dialect == 1) && slowSig(s.Sig) && slowCheck(s.Procs).Err == impl.UnitOk
		if valid != (len(got) > 0) || valid && string(got) != slowSourceText(s) {
			t.Fatalf("%+v: %q", s, got)
		}
	}
}
