package tests

import (
	"math"
	"math/rand"
	"slices"
	"testing"

	"loop.example/s01319/impl"
)

func TestValuesConstants(t *testing.T) {
	got := []int64{
		impl.BoundMax, impl.ValNum, impl.ValPtr, impl.FlagNone, impl.FlagPublic, impl.FlagSecret,
		impl.CkOk, impl.CkFlag, impl.CkSecretFlag, impl.CkNotPtr, impl.CkHeap, impl.CkIndex, impl.CkBounds,
		impl.CkReadOnly, impl.CkSecretStore, impl.CkTiming, impl.CkFix, impl.CkNoSig, impl.CkNoStmts,
	}
	want := []int64{1099511627776, 0, 1, 0, 1, 2, 0, 1, 2, 3, 4, 5, 6, 7, 8, 9, 10, 11, 12}
	if !slices.Equal(got, want) {
		t.Errorf("%v", got)
	}
}

func wantSig(t *testing.T, name string, sig impl.Sig, want bool) {
	t.Helper()
	if got := impl.ValidSig(sig); got != want {
		t.Errorf("%s: ValidSig is %v", name, got)
	}
	if got := impl.ValidAbs(sig, impl.Abs{Regs: make([]impl.Val, 8)}); got != want {
		t.Errorf("%s: ValidAbs is %v", name, got)
	}
	if got := impl.Transfer(sig, impl.Abs{Regs: make([]impl.Val, 8)}, impl.Ins{Op: impl.OpMov}); (got.Err == impl.CkOk) != want {
		t.Errorf("%s: Transfer is %+v", name, got)
	}
	got := impl.Check(sig, nil)
	if want && !(got.Err == impl.CkOk && got.At == 0 && sameAbs(got.Abs, impl.Abs{Regs: sig.Regs})) {
		t.Errorf("%s: Check is %+v", name, got)
	}
	if !want && !sameCheck(got, impl.CheckRes{Err: impl.CkNoSig}) {
		t.Errorf("%s: Check is %+v", name, got)
	}
}

func TestSigHeaps(t *testing.T) {
	regs := make([]impl.Val, 8)
	heap := impl.HeapSig{Size: 5}
	for size := range 12 {
		wantSig(t, "so many heaplets", impl.Sig{Heaps: slices.Repeat([]impl.HeapSig{heap}, size), Regs: regs}, size <= 8)
	}
	wantSig(t, "nothing", impl.Sig{}, false)
	wantSig(t, "no heaplet, an empty list", impl.Sig{Heaps: []impl.HeapSig{}, Regs: regs}, true)
	for _, size := range []int64{math.MinInt64, -1, 0, 1, 2, 4095, 4096, 4097, math.MaxInt64} {
		for place := range 8 {
			for _, kind := range []impl.HeapSig{{}, {Secret: true}, {Write: true}, {Secret: true, Write: true}} {
				heaps := slices.Repeat([]impl.HeapSig{heap}, 8)
				heaps[place] = kind
				heaps[place].Size = size
				wantSig(t, "a Size", impl.Sig{Heaps: heaps, Regs: regs}, size >= 1 && size <= 4096)
				wantSig(t, "a Size in the last", impl.Sig{Heaps: heaps[:place+1], Regs: regs}, size >= 1 && size <= 4096)
			}
		}
	}
}

func TestSigRegs(t *testing.T) {
	for size := range 20 {
		sig := plainSig()
		sig.Regs = make([]impl.Val, size)
		wantSig(t, "so many Regs", sig, size == 8)
		a := impl.Abs{Regs: make([]impl.Val, size)}
		if got := impl.ValidAbs(plainSig(), a); got != (size == 8) {
			t.Errorf("an Abs of %d Regs is valid: %v", size, got)
		}
		if got := impl.Transfer(plainSig(), a, impl.Ins{Op: impl.OpMov}); size != 8 && !sameAbsRes(got, impl.AbsRes{Err: impl.CkNoSig}) {
			t.Errorf("an Abs of %d Regs: %+v", size, got)
		}
	}
}

// valRow is a Val and whether it is valid where there are three heaplets.
type valRow struct {
	val  impl.Val
	want bool
}

func valRows() []valRow {
	return []valRow{
		{num(-2), false}, {num(-1), true}, {num(0), true}, {num(farthest), true}, {num(farthest + 1), false},
		{hidden(-2), false}, {hidden(-1), true}, {hidden(0), true}, {hidden(farthest), true}, {hidden(farthest + 1), false},
		{num(math.MinInt64), false}, {num(math.MaxInt64), false},
		{impl.Val{H: 1}, false}, {impl.Val{H: -1}, false}, {impl.Val{Lo: 1, Hi: 1}, false}, {impl.Val{Lo: -1}, false}, {impl.Val{Hi: 1}, false},
		{impl.Val{Max: -1, H: 1}, false}, {impl.Val{Secret: true, Max: 5, Lo: 1}, false}, {impl.Val{Secret: true, Hi: -1}, false},
		{ptr(-1, 0, 0), false}, {ptr(0, 0, 0), true}, {ptr(2, 0, 0), true}, {ptr(3, 0, 0), false}, {ptr(8, 0, 0), false}, {ptr(math.MinInt64, 0, 0), false},
		{ptr(1, 5, 5), true}, {ptr(1, 5, 4), false}, {ptr(1, -1, -1), true}, {ptr(1, -1, -2), false}, {ptr(1, -1, 0), true}, {ptr(1, 1, 0), false},
		{ptr(1, -farthest, 0), true}, {ptr(1, -farthest-1, 0), false}, {ptr(1, -farthest, -farthest), true}, {ptr(1, -farthest-1, -farthest-1), false},
		{ptr(1, 0, farthest), true}, {ptr(1, 0, farthest+1), false}, {ptr(1, farthest, farthest), true}, {ptr(1, farthest+1, farthest+1), false},
		{ptr(1, -farthest, farthest), true}, {ptr(1, farthest, -farthest), false}, {ptr(1, math.MinInt64, math.MaxInt64), false},
		{impl.Val{Kind: 1, Secret: true}, false}, {impl.Val{Kind: 1, Max: -1}, false}, {impl.Val{Kind: 1, Max: 1}, false},
		{impl.Val{Kind: 2}, false}, {impl.Val{Kind: -1}, false}, {impl.Val{Kind: math.MaxInt64, Max: -1}, false}, {impl.Val{Kind: 2, H: 1, Lo: 1, Hi: 2}, false},
	}
}

func TestSigVals(t *testing.T) {
	for _, row := range valRows() {
		if slowVal(row.val, 3) != row.want {
			t.Fatalf("the slow reading of %+v", row.val)
		}
		for place := range 8 {
			sig := plainSig()
			sig.Heaps = sig.Heaps[:3]
			a := impl.Abs{Regs: slices.Clone(sig.Regs)}
			a.Regs[place] = row.val
			if got := impl.ValidAbs(sig, a); got != row.want {
				t.Errorf("ValidAbs with %+v is %v", row.val, got)
			}
			if got := impl.Transfer(sig, a, impl.Ins{Op: impl.OpMovi, D: 3}); (got.Err == impl.CkOk) != row.want || !row.want && !sameAbsRes(got, impl.AbsRes{Err: impl.CkNoSig}) {
				t.Errorf("Transfer with %+v is %+v", row.val, got)
			}
			sig.Regs[place] = row.val
			wantSig(t, "a Val", sig, row.want)
		}
	}
}

// A pointer's H is held against the heaplets of the sig at hand.
func TestPointersByHeaps(t *testing.T) {
	for size := range int64(9) {
		for h := range int64(10) {
			sig := impl.Sig{Heaps: slices.Repeat([]impl.HeapSig{{Size: 1}}, int(size)), Regs: make([]impl.Val, 8)}
			a := impl.Abs{Regs: slices.Clone(sig.Regs)}
			a.Regs[6] = ptr(h, 0, 0)
			if got := impl.ValidAbs(sig, a); got != (h < size) {
				t.Errorf("a pointer to %d of %d: %v", h, size, got)
			}
			sig.Regs[6] = ptr(h, 0, 0)
			wantSig(t, "a pointer", sig, h < size)
		}
	}
}

func TestAbsFlags(t *testing.T) {
	for _, flag := range []int64{math.MinInt64, -1, 0, 1, 2, 3, math.MaxInt64} {
		want := flag >= 0 && flag <= 2
		for _, other := range []int64{0, 1, 2} {
			z, c := absFlags(absWith(), flag, other), absFlags(absWith(), other, flag)
			if impl.ValidAbs(plainSig(), z) != want || impl.ValidAbs(plainSig(), c) != want {
				t.Errorf("a flag of %d", flag)
			}
			for _, a := range []impl.Abs{z, c} {
				if got := impl.Transfer(plainSig(), a, impl.Ins{Op: impl.OpMov}); (got.Err == impl.CkOk) != want || !want && got.Err != impl.CkNoSig {
					t.Errorf("Transfer with a flag of %d: %+v", flag, got)
				}
			}
		}
	}
}

// fitting is a sig with a register of each sort, and a machine that fits it.
func fitting() (impl.Sig, impl.Mach) {
	sig := sigWith(num(7), hidden(7), num(-1), hidden(-1), ptr(0, 0, 0), ptr(1, -3, 5), ptr(2, 4, 4), num(0))
	m := machOf(sig)
	m.Regs = []uint64{7, 7, top, top, 10000, 19997, 30004, 0}
	return sig, m
}

func wantFits(t *testing.T, name string, sig impl.Sig, m impl.Mach, want bool) {
	t.Helper()
	if got := impl.Fits(sig, m); got != want {
		t.Errorf("%s: %v", name, got)
	}
}

func TestFitsOneThingWrong(t *testing.T) {
	rows := []struct {
		name   string
		change func(sig *impl.Sig, m *impl.Mach)
		want   bool
	}{
		{"as it is", func(sig *impl.Sig, m *impl.Mach) {}, true},
		{"halted", func(sig *impl.Sig, m *impl.Mach) { m.Status = impl.Halted }, false},
		{"faulted", func(sig *impl.Sig, m *impl.Mach) { m.Status = impl.Faulted }, false},
		{"no status", func(sig *impl.Sig, m *impl.Mach) { m.Status = 3 }, false},
		{"at 1", func(sig *impl.Sig, m *impl.Mach) { m.Pc = 1 }, false},
		{"at -1", func(sig *impl.Sig, m *impl.Mach) { m.Pc = -1 }, false},
		{"an Obs", func(sig *impl.Sig, m *impl.Mach) { m.Obs = []impl.Obs{{Kind: impl.ObsAddr}} }, false},
		{"no Obs, an empty list", func(sig *impl.Sig, m *impl.Mach) { m.Obs = []impl.Obs{} }, true},
		{"Z is defined", func(sig *impl.Sig, m *impl.Mach) { m.HasZ = true }, false},
		{"Z is set", func(sig *impl.Sig, m *impl.Mach) { m.HasZ, m.Z = true, true }, false},
		{"C is defined", func(sig *impl.Sig, m *impl.Mach) { m.HasC = true }, false},
		{"C is set", func(sig *impl.Sig, m *impl.Mach) { m.HasC, m.C = true, true }, false},
		{"Z is set and undefined", func(sig *impl.Sig, m *impl.Mach) { m.Z = true }, false},
		{"a heaplet less", func(sig *impl.Sig, m *impl.Mach) { m.Heaps = m.Heaps[:3] }, false},
		{"a heaplet more", func(sig *impl.Sig, m *impl.Mach) { m.Heaps = append(m.Heaps, heapAt(90000, 5)) }, false},
		{"a heaplet more in the sig", func(sig *impl.Sig, m *impl.Mach) { sig.Heaps = append(sig.Heaps, impl.HeapSig{Size: 5}) }, false},
		{"a heaplet less in the sig", func(sig *impl.Sig, m *impl.Mach) { sig.Heaps = sig.Heaps[:3] }, false},
		{"no heaplet", func(sig *impl.Sig, m *impl.Mach) { m.Heaps = nil }, false},
		{"two that are changed", func(sig *impl.Sig, m *impl.Mach) { m.Heaps[0], m.Heaps[3] = m.Heaps[3], m.Heaps[0] }, false},
		{"two that are changed in the sig", func(sig *impl.Sig, m *impl.Mach) { sig.Heaps[1], sig.Heaps[2] = sig.Heaps[2], sig.Heaps[1] }, false},
		{"a greater one", func(sig *impl.Sig, m *impl.Mach) { m.Heaps[1].Data = make([]byte, 33) }, false},
		{"a smaller one", func(sig *impl.Sig, m *impl.Mach) { m.Heaps[1].Data = make([]byte, 31) }, false},
		{"a last one that is smaller", func(sig *impl.Sig, m *impl.Mach) { m.Heaps[3].Data = make([]byte, 8) }, false},
		{"one to write", func(sig *impl.Sig, m *impl.Mach) { m.Heaps[0].Write = true }, false},
		{"one to read", func(sig *impl.Sig, m *impl.Mach) { m.Heaps[2].Write = false }, false},
		{"one that is secret", func(sig *impl.Sig, m *impl.Mach) { sig.Heaps[0].Secret = true }, true},
		{"other bytes", func(sig *impl.Sig, m *impl.Mach) { fill(m.Heaps[3].Data, 200) }, true},
		{"one on another", func(sig *impl.Sig, m *impl.Mach) { m.Heaps[3].Base = m.Heaps[0].Base }, false},
		{"7 Regs", func(sig *impl.Sig, m *impl.Mach) { m.Regs = m.Regs[:7] }, false},
		{"9 Regs", func(sig *impl.Sig, m *impl.Mach) { m.Regs = append(m.Regs, 0) }, false},
		{"7 Regs in the sig", func(sig *impl.Sig, m *impl.Mach) { sig.Regs = sig.Regs[:7] }, false},
		{"9 Regs in the sig", func(sig *impl.Sig, m *impl.Mach) { sig.Regs = append(sig.Regs, num(-1)) }, false},
		{"a sig that is not valid", func(sig *impl.Sig, m *impl.Mach) { sig.Regs[2].Max = -2 }, false},
		{"a pointer to no heaplet", func(sig *impl.Sig, m *impl.Mach) { sig.Regs[4].H = 4 }, false},
		{"a register above its Max", func(sig *impl.Sig, m *impl.Mach) { m.Regs[0] = 8 }, false},
		{"a register far above its Max", func(sig *impl.Sig, m *impl.Mach) { m.Regs[0] = top }, false},
		{"a secret register above its Max", func(sig *impl.Sig, m *impl.Mach) { m.Regs[1] = 8 }, false},
		{"a register below its Max", func(sig *impl.Sig, m *impl.Mach) { m.Regs[0], m.Regs[1] = 0, 6 }, true},
		{"a register of Max 0", func(sig *impl.Sig, m *impl.Mach) { m.Regs[7] = 1 }, false},
		{"a register that may be anything", func(sig *impl.Sig, m *impl.Mach) { m.Regs[2], m.Regs[3] = 0, 1<<63 }, true},
	}
	for _, row := range rows {
		sig, m := fitting()
		row.change(&sig, &m)
		wantFits(t, row.name, sig, m, row.want)
	}
	sig, _ := fitting()
	wantFits(t, "no machine", sig, impl.Mach{}, false)
	wantFits(t, "no sig", impl.Sig{}, machOf(sig), false)
	wantFits(t, "neither", impl.Sig{}, impl.Mach{}, false)
	for i, m := range wrongMachs() {
		regs := make([]impl.Val, 8)
		fill(regs, num(-1))
		wrong := impl.Sig{Regs: regs}
		for _, h := range m.Heaps {
			wrong.Heaps = append(wrong.Heaps, impl.HeapSig{Size: int64(len(h.Data)), Write: h.Write})
		}
		if impl.Fits(wrong, m) {
			t.Errorf("wrong machine %d fits", i)
		}
	}
}

// A pointer is asked just before Lo, at Lo, at Hi and behind it, also where base and offset wrap around.
func TestFitsPointers(t *testing.T) {
	spans := [][2]int64{{0, 0}, {-3, 5}, {4, 8}, {-8, -4}, {-farthest, farthest}, {farthest, farthest}, {-farthest, -farthest}, {0, farthest}}
	for _, base := range []uint64{0, 1, 2, 100, 1 << 40, 1 << 63, top - 100, top - 17, top - 16} {
		for _, span := range spans {
			sig := sigWith(num(-1), ptr(0, span[0], span[1]))
			sig.Heaps = sig.Heaps[:1]
			m := impl.Mach{Regs: make([]uint64, 8), Heaps: []impl.Heap{{Base: base, Data: make([]byte, 16)}}}
			for _, row := range []struct {
				away int64
				want bool
			}{{span[0] - 1, false}, {span[0], true}, {span[0]/2 + span[1]/2, true}, {span[1], true}, {span[1] + 1, false}} {
				m.Regs[1] = base + uint64(row.away)
				wantFits(t, "a pointer", sig, m, row.want)
				if slowIs(sig.Regs[1], m.Regs[1], m.Heaps) != row.want {
					t.Fatalf("the slow reading at %d from %d", row.away, base)
				}
			}
		}
	}
}

// Each pointer is counted from its own heaplet.
func TestFitsHeapOfPointer(t *testing.T) {
	for h := range int64(4) {
		for reg := range 8 {
			sig := plainSig()
			sig.Regs[reg] = ptr(h, 2, 2)
			m := machOf(sig)
			for other := range int64(4) {
				m.Regs[reg] = m.Heaps[other].Base + 2
				wantFits(t, "a pointer", sig, m, other == h)
			}
		}
	}
}

func TestFitsIsSlow(t *testing.T) {
	random := rand.New(rand.NewSource(41))
	count := [2]int{}
	for range 20000 {
		sig := randomSig(random)
		m := randomMachAs(random, sig, impl.Abs{Regs: sig.Regs})
		if random.Intn(2) == 0 {
			m.Regs[random.Intn(8)] += uint64(random.Int63n(5) - 2)
		}
		m.HasZ, m.Z, m.HasC, m.C = false, false, false, false
		want := slowIsAs(impl.Abs{Regs: sig.Regs}, m)
		wantFits(t, "a random machine", sig, m, want)
		if want {
			count[1]++
		} else {
			count[0]++
		}
	}
	if count[0] < 1000 || count[1] < 1000 {
		t.Errorf("%v", count)
	}
}

func TestValuesKeepArguments(t *testing.T) {
	sig, m := fitting()
	oldSig, old := cloneSig(sig), cloneMach(m)
	a := absWith(num(3), ptr(1, 0, 4))
	oldAbs := cloneAbs(a)
	impl.ValidSig(sig)
	impl.Fits(sig, m)
	impl.ValidAbs(sig, a)
	if !sameSig(sig, oldSig) || !sameMach(m, old) || !sameAbs(a, oldAbs) {
		t.Errorf("an argument is changed")
	}
}

// Every function answers at every argument: none of these is valid.
func TestValuesOfNonsense(t *testing.T) {
	random := rand.New(rand.NewSource(42))
	odd := []int64{math.MinInt64, -1, 0, 1, 2, 7, 8, 9, farthest, farthest + 1, math.MaxInt64}
	pick := func() int64 { return odd[random.Intn(len(odd))] }
	for range 20000 {
		sig := impl.Sig{Heaps: make([]impl.HeapSig, random.Intn(10)), Regs: make([]impl.Val, random.Intn(3)+7)}
		for i := range sig.Heaps {
			sig.Heaps[i] = impl.HeapSig{Size: []int64{pick(), 5, 5, 5}[random.Intn(4)], Write: random.Intn(2) == 0}
		}
		a := impl.Abs{Regs: make([]impl.Val, random.Intn(3)+7), Z: pick() % 4, C: pick() % 4}
		for _, vals := range [][]impl.Val{sig.Regs, a.Regs} {
			for i := range vals {
				vals[i] = impl.Val{Kind: pick() % 3, Max: pick(), H: pick(), Lo: pick(), Hi: pick(), Secret: random.Intn(2) == 0}
				if random.Intn(8) > 0 {
					vals[i] = randomVal(random, int64(len(sig.Heaps)))
				}
			}
		}
		x := impl.Ins{Op: pick() % 35, D: pick(), A: pick(), B: pick(), Imm: pick(), H: pick()}
		m := randomMach(random)
		m.Regs = m.Regs[:7+random.Intn(2)]
		if p := mayPanic(func() {
			if impl.ValidSig(sig) != slowSig(sig) || impl.ValidAbs(sig, a) != slowAbs(sig, a) {
				t.Errorf("%+v, %+v", sig, a)
			}
			impl.Fits(sig, m)
			impl.JoinVals(a.Regs[0], sig.Regs[0])
			if got, want := impl.Transfer(sig, a, x), slowTransfer(sig, a, x); !sameAbsRes(got, want) {
				t.Errorf("%+v, not %+v", got, want)
			}
			impl.Check(sig, []impl.Stmt{doStmt(x), {Kind: pick(), Cond: pick(), Then: pick(), Else: pick()}})
		}); p != nil {
			t.Fatalf("%v for %+v, %+v, %+v", p, sig, a, x)
		}
	}
}
