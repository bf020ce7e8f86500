package tests

import (
	"bytes"
	"math/rand"
	"slices"
	"testing"

	"loop.example/s01319/impl"
)

// wantPublic asks SamePublic both ways round.
func wantPublic(t *testing.T, name string, sig impl.Sig, m, n impl.Mach, want bool) {
	t.Helper()
	if got := impl.SamePublic(sig, m, n); got != want {
		t.Errorf("%s: %v", name, got)
	}
	if got := impl.SamePublic(sig, n, m); got != want {
		t.Errorf("%s, the other way round: %v", name, got)
	}
}

func TestSamePublicOneThing(t *testing.T) {
	rows := []struct {
		name   string
		change func(m *impl.Mach)
		want   bool
	}{
		{"the same", func(m *impl.Mach) {}, true},
		{"a public number", func(m *impl.Mach) { m.Regs[0] = 6 }, false},
		{"a public number to 0", func(m *impl.Mach) { m.Regs[0] = 0 }, false},
		{"a secret number", func(m *impl.Mach) { m.Regs[1] = 6 }, true},
		{"a secret number to 0", func(m *impl.Mach) { m.Regs[1] = 0 }, true},
		{"a secret number that does not fit", func(m *impl.Mach) { m.Regs[1] = 8 }, false},
		{"a public number of any size", func(m *impl.Mach) { m.Regs[2]-- }, false},
		{"a public number's highest bit", func(m *impl.Mach) { m.Regs[2] ^= 1 << 63 }, false},
		{"a secret number of any size", func(m *impl.Mach) { m.Regs[3] = 1 }, true},
		{"a pointer", func(m *impl.Mach) { m.Regs[5]++ }, false},
		{"a pointer, to its end", func(m *impl.Mach) { m.Regs[5] = 20005 }, false},
		{"a pointer that does not fit", func(m *impl.Mach) { m.Regs[4]++ }, false},
		{"the base of a public heaplet", func(m *impl.Mach) { m.Heaps[0].Base++; m.Regs[4]++ }, false},
		{"the base of a secret heaplet", func(m *impl.Mach) { m.Heaps[1].Base++; m.Regs[5]++ }, false},
		{"the base of a secret heaplet, the pointer as it was", func(m *impl.Mach) { m.Heaps[1].Base-- }, false},
		{"the base of a secret heaplet without a pointer", func(m *impl.Mach) { m.Heaps[3].Base++ }, false},
		{"a byte of a public heaplet", func(m *impl.Mach) { m.Heaps[0].Data[0] = 1 }, false},
		{"the last byte of a public heaplet", func(m *impl.Mach) { m.Heaps[0].Data[15] = 1 }, false},
		{"a byte of a public heaplet to write", func(m *impl.Mach) { m.Heaps[2].Data[4] = 1 }, false},
		{"a byte of a secret heaplet to write", func(m *impl.Mach) { m.Heaps[1].Data[0] = 1 }, true},
		{"a byte of a secret heaplet to read", func(m *impl.Mach) { m.Heaps[3].Data[8] = 1 }, true},
		{"all that is secret", func(m *impl.Mach) {
			m.Regs[1], m.Regs[3] = 5, 5
			fill(m.Heaps[1].Data, 5)
			fill(m.Heaps[3].Data, 6)
		}, true},
		{"all that is secret and a public byte", func(m *impl.Mach) {
			m.Regs[1], m.Regs[3] = 5, 5
			fill(m.Heaps[1].Data, 5)
			m.Heaps[2].Data[7] = 1
		}, false},
	}
	for _, row := range rows {
		sig, m := fitting()
		n := cloneMach(m)
		row.change(&n)
		wantPublic(t, row.name, sig, m, n, row.want)
		wantPublic(t, row.name+", against itself", sig, n, cloneMach(n), impl.Fits(sig, n))
	}
}

// A machine that does not fit has nothing in common with any, not even with itself.
func TestSamePublicFits(t *testing.T) {
	rows := []struct {
		name   string
		change func(m *impl.Mach)
	}{
		{"halted", func(m *impl.Mach) { m.Status = impl.Halted }},
		{"faulted", func(m *impl.Mach) { m.Status = impl.Faulted }},
		{"at 1", func(m *impl.Mach) { m.Pc = 1 }},
		{"something seen", func(m *impl.Mach) { m.Obs = []impl.Obs{{Kind: 1}} }},
		{"Z", func(m *impl.Mach) { m.HasZ = true }},
		{"C", func(m *impl.Mach) { m.HasC = true }},
		{"one register less", func(m *impl.Mach) { m.Regs = m.Regs[:7] }},
		{"one register more", func(m *impl.Mach) { m.Regs = append(m.Regs, 0) }},
		{"no registers", func(m *impl.Mach) { m.Regs = nil }},
		{"one heaplet less", func(m *impl.Mach) { m.Heaps = m.Heaps[:3] }},
		{"one heaplet more", func(m *impl.Mach) { m.Heaps = append(m.Heaps, heapAt(90000, 1)) }},
		{"no heaplets", func(m *impl.Mach) { m.Heaps = nil }},
		{"a heaplet that is shorter", func(m *impl.Mach) { m.Heaps[3].Data = m.Heaps[3].Data[:8] }},
		{"a heaplet that may be written", func(m *impl.Mach) { m.Heaps[0].Write = true }},
		{"two heaplets at one place", func(m *impl.Mach) { m.Heaps[3].Base = m.Heaps[0].Base }},
		{"a number out of its bound", func(m *impl.Mach) { m.Regs[7] = 1 }},
	}
	for _, row := range rows {
		sig, m := fitting()
		n := cloneMach(m)
		row.change(&n)
		wantPublic(t, row.name, sig, m, n, false)
		wantPublic(t, row.name+", both", sig, n, cloneMach(n), false)
	}
	sig, m := fitting()
	wantPublic(t, "no machine", sig, m, impl.Mach{}, false)
	wantPublic(t, "no machines", sig, impl.Mach{}, impl.Mach{}, false)
	wantPublic(t, "no sig", impl.Sig{}, m, m, false)
	wantPublic(t, "nothing", impl.Sig{}, impl.Mach{}, impl.Mach{}, false)
	sig.Regs[1].Max = farthest + 1
	wantPublic(t, "a sig that is not valid", sig, m, m, false)
	bare := impl.Sig{Regs: anyRegs()}
	wantPublic(t, "no heaplets", bare, impl.Mach{Regs: make([]uint64, 8)}, impl.Mach{Regs: []uint64{1, 2, 3, 4, 5, 6, 7, 8}}, true)
	fill(bare.Regs, num(-1))
	for i := range 8 {
		n := impl.Mach{Regs: make([]uint64, 8)}
		n.Regs[i] = 1
		wantPublic(t, "each register", bare, impl.Mach{Regs: make([]uint64, 8)}, n, false)
	}
}

func slowSamePublic(sig impl.Sig, m, n impl.Mach) bool {
	if !impl.Fits(sig, m) || !impl.Fits(sig, n) {
		return false
	}
	same := true
	for i := range sig.Regs {
		same = same && (sig.Regs[i].Secret || m.Regs[i] == n.Regs[i])
	}
	for i := range sig.Heaps {
		same = same && m.Heaps[i].Base == n.Heaps[i].Base
		same = same && (sig.Heaps[i].Secret || bytes.Equal(m.Heaps[i].Data, n.Heaps[i].Data))
	}
	return same
}

func TestSamePublicIsSlow(t *testing.T) {
	random := rand.New(rand.NewSource(50))
	count := map[bool]int{}
	for range 20000 {
		sig := randomSig(random)
		m := randomFitting(random, sig)
		n := twinOf(random, sig, m)
		if random.Intn(2) == 0 {
			n.Regs[random.Intn(8)] ^= 1 << random.Intn(64)
		}
		if at := random.Intn(8); at < len(n.Heaps) {
			n.Heaps[at].Data[random.Intn(len(n.Heaps[at].Data))] ^= 1
		}
		if at := random.Intn(30); at < len(n.Heaps) {
			n.Heaps[at].Base--
		}
		oldSig, oldM, oldN := cloneSig(sig), cloneMach(m), cloneMach(n)
		got := impl.SamePublic(sig, m, n)
		if want := slowSamePublic(sig, m, n); got != want {
			t.Fatalf("%v, not %v: %+v\n%s\n%s", got, want, sig, showMach(m), showMach(n))
		}
		if !sameSig(sig, oldSig) || !sameMach(m, oldM) || !sameMach(n, oldN) {
			t.Fatalf("an argument is changed")
		}
		count[got]++
	}
	if count[true] < 3000 || count[false] < 3000 {
		t.Errorf("%v", count)
	}
}

// The promises 9 and 10 of what Check lets through, at every number of steps.
func TestCheckedShowsNoSecret(t *testing.T) {
	random := rand.New(rand.NewSource(51))
	through, halted, differ := 0, 0, 0
	for range 6000 {
		sig := mixedSig()
		if random.Intn(3) == 0 {
			sig.Regs[random.Intn(8)] = randomVal(random, 4)
		}
		stmts := randomChecked(random, random.Intn(14), 3)
		got := impl.Check(sig, stmts)
		if got.Err != impl.CkOk {
			continue
		}
		through++
		m := randomFitting(random, sig)
		n := twinOf(random, sig, m)
		prog := impl.Lower(stmts)
		if wantNoShow(t, sig, prog, got.Abs, m, n, 120) {
			halted++
		}
		if a, b := impl.RunMach(prog, m, 120), impl.RunMach(prog, n, 120); !slices.Equal(a.Regs, b.Regs) {
			differ++
		}
	}
	if through < 1000 || halted < 800 || differ < 500 {
		t.Errorf("%d let through, %d halted, %d with other registers", through, halted, differ)
	}
}

// An instruction or two of every op, with every register of its own sort: what is let through shows nothing of a secret.
func TestEachOpShowsNoSecret(t *testing.T) {
	random := rand.New(rand.NewSource(52))
	sig := mixedSig()
	through := [29]int{}
	for op := int64(1); op <= 28; op++ {
		for range 400 {
			stmts := list(cmpiStmt([]int64{2, 3, 4, 5}[random.Intn(4)], random.Int63n(4)))
			first := randomFor(random, sig, impl.Abs{Regs: sig.Regs}, op)
			stmts = append(stmts, doStmt(first), doStmt(randomFor(random, sig, impl.Abs{Regs: sig.Regs}, 1+random.Int63n(28))))
			stmts = joined(stmts, list(cmpiStmt(first.D, 1)), choiceOf(1, list(addiStmt(2, 1)), nil), list(doStmt(impl.Ins{Op: impl.OpStb, D: first.D, A: 6, H: 2})))
			stmts = stmts[:1+random.Intn(len(stmts))]
			got := impl.Check(sig, stmts)
			if got.Err != impl.CkOk {
				continue
			}
			through[op]++
			m := randomFitting(random, sig)
			wantNoShow(t, sig, impl.Lower(stmts), got.Abs, m, twinOf(random, sig, m), 20)
		}
		if through[op] < 30 {
			t.Errorf("op %d was let through %d times only", op, through[op])
		}
	}
}

// An endless loop that was let through does not fault in StepMax steps, and shows the same.
func TestCheckedForStepMax(t *testing.T) {
	random := rand.New(rand.NewSource(53))
	sig := mixedSig()
	stmts := joined(list(movOf(3, 5), moviStmt(2, 0), moviStmt(4, 7), cmpiStmt(4, 0)), loopOf(impl.CondNz,
		andiStmt(2, 15),
		doStmt(impl.Ins{Op: impl.OpLdbx, D: 5, A: 1, B: 2, H: 1}),
		doStmt(impl.Ins{Op: impl.OpAdds, D: 3, A: 3, B: 5}),
		doStmt(impl.Ins{Op: impl.OpSelc, D: 5, A: 3, B: 5}),
		doStmt(impl.Ins{Op: impl.OpStbx, D: 5, A: 1, B: 2, H: 1}),
		doStmt(impl.Ins{Op: impl.OpStb, D: 2, A: 6, Imm: 3, H: 2}),
		doStmt(impl.Ins{Op: impl.OpDiv, D: 7, A: 2, B: 4}),
		addiStmt(2, 1),
		cmpiStmt(4, 0),
	))
	got := impl.Check(sig, stmts)
	if got.Err != impl.CkOk {
		t.Fatalf("%+v", got)
	}
	prog := impl.Lower(stmts)
	m := randomFitting(random, sig)
	n := twinOf(random, sig, m)
	if !impl.SamePublic(sig, m, n) {
		t.Fatalf("not the same public things")
	}
	for _, steps := range []int64{0, 1, 2, 999, 50000, 99999, 100000} {
		a, b := impl.RunMach(prog, m, steps), impl.RunMach(prog, n, steps)
		wantKept(t, m, a)
		wantKept(t, n, b)
		wantSameShown(t, sig, a, b)
		if a.Status != impl.Running {
			t.Errorf("after %d steps: %s", steps, showMach(a))
		}
		if steps > 100 && slices.Equal(a.Regs, b.Regs) {
			t.Errorf("the secrets make no difference at all")
		}
	}
}
