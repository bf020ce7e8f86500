package tests

import (
	"math"
	"math/rand"
	"slices"
	"testing"

	"loop.example/s01319/impl"
)

// countDown counts r3 down to 0 and halts.
func countDown() []impl.Ins {
	return []impl.Ins{{Op: impl.OpCmpi, A: 3}, {Op: impl.OpJz, Imm: 4}, {Op: impl.OpAddi, D: 3, A: 3, Imm: -1}, {Op: impl.OpJmp}, halt}
}

// endless loads the same byte again and again, two steps a round.
func endless() []impl.Ins {
	return []impl.Ins{{Op: impl.OpLdb, D: 5, A: 0}, {Op: impl.OpJmp}, halt}
}

// seeing is a machine that has seen so much.
func seeing(size int) impl.Mach {
	m := plainMach()
	m.Obs = slices.Repeat([]impl.Obs{{Kind: impl.ObsTime, Val: 1}}, size)
	return m
}

func TestRunLoop(t *testing.T) {
	for start := range uint64(6) {
		m := withRegs(plainMach(), 100, 200, 300, start)
		got := impl.RunMach(countDown(), m, 4*int64(start)+3)
		want := cloneMach(m)
		want.Regs[3], want.Pc, want.Status = 0, 4, impl.Halted
		want.HasZ, want.Z, want.HasC = true, true, true
		for range start {
			want.Obs = append(want.Obs, impl.Obs{Kind: impl.ObsBranch})
		}
		want.Obs = append(want.Obs, impl.Obs{Kind: impl.ObsBranch, Val: 1})
		wantMach(t, "a loop", got, want)
		if before := impl.RunMach(countDown(), m, 4*int64(start)+2); before.Status != impl.Running || before.Pc != 4 {
			t.Errorf("a step ahead of the end: %+v", before)
		}
		wantMach(t, "a loop with steps to spare", impl.RunMach(countDown(), m, 100000), want)
	}
}

func TestRunNoSteps(t *testing.T) {
	for _, m := range []impl.Mach{plainMach(), withFlags(true, false), seeing(100000)} {
		wantMach(t, "no steps", impl.RunMach(countDown(), m, 0), m)
	}
}

func TestRunBounds(t *testing.T) {
	m := plainMach()
	for _, steps := range []int64{math.MinInt64, -1, 100001, math.MaxInt64} {
		if !isZeroMach(impl.RunMach(countDown(), m, steps)) {
			t.Errorf("%d steps", steps)
		}
	}
	got := impl.RunMach(endless(), m, 100000)
	if got.Status != impl.Running || got.Pc != 0 || len(got.Obs) != 50000 {
		t.Errorf("100000 steps: %s", showMach(got))
	}
	got = impl.RunMach(endless(), seeing(100000), 100000)
	if len(got.Obs) != 150000 || got.Obs[99999].Kind != impl.ObsTime || got.Obs[100000] != (impl.Obs{Kind: impl.ObsAddr, Val: 100}) || !impl.ValidMach(got) {
		t.Errorf("from 100000 seen: %s", showMach(got))
	}
	for _, steps := range []int64{0, 1} {
		if !isZeroMach(impl.RunMach(countDown(), seeing(100001), steps)) {
			t.Errorf("from 100001 seen: not the zero Mach")
		}
	}
}

// A step, unlike a run, goes on from as much seen as a machine may have.
func TestStepWithMuchSeen(t *testing.T) {
	for _, size := range []int{100001, 200000} {
		got := impl.StepMach(endless(), seeing(size))
		if len(got.Obs) != size+1 || got.Status != impl.Running || got.Pc != 1 {
			t.Errorf("from %d seen: %s", size, showMach(got))
		}
	}
	if !isZeroMach(impl.StepMach(endless(), seeing(200001))) {
		t.Errorf("from 200001 seen: not the zero Mach")
	}
}

func wrongProgs() [][]impl.Ins {
	return [][]impl.Ins{nil, {}, {{}}, {{Op: impl.OpMov}}, {{Op: 35}, halt}, {{Op: impl.OpMov, D: 8}, halt}, {{Op: impl.OpMov, D: -1}, halt}, {{Op: impl.OpJmp, Imm: 2}, halt}, {{Op: math.MaxInt64}, halt}, longProg(2001)}
}

func wrongMachs() []impl.Mach {
	return []impl.Mach{
		{}, {Status: impl.Halted}, withHeaps(heapAt(top, 1)), withHeaps(heapAt(5, 0)), withHeaps(heapAt(5, 5), heapAt(9, 5)),
		changed(func(m *impl.Mach) { m.Regs = m.Regs[:7] }),
		changed(func(m *impl.Mach) { m.Regs = append(m.Regs, 1) }),
		changed(func(m *impl.Mach) { m.Z = true }),
		changed(func(m *impl.Mach) { m.C = true }),
		changed(func(m *impl.Mach) { m.Pc = -1 }),
		changed(func(m *impl.Mach) { m.Pc = 2001 }),
		changed(func(m *impl.Mach) { m.Status = 3 }),
		changed(func(m *impl.Mach) { m.Status = -1 }),
		changed(func(m *impl.Mach) { m.Obs = []impl.Obs{{}} }),
		changed(func(m *impl.Mach) { m.Pc, m.Status, m.Obs = 1, impl.Faulted, []impl.Obs{{Kind: 4}} }),
	}
}

func TestWrongArguments(t *testing.T) {
	for i, prog := range wrongProgs() {
		for status := range int64(3) {
			m := changed(func(m *impl.Mach) { m.Status = status })
			if !isZeroMach(impl.StepMach(prog, m)) || !isZeroMach(impl.RunMach(prog, m, 0)) || !isZeroMach(impl.RunMach(prog, m, 5)) {
				t.Errorf("program %d, Status %d", i, status)
			}
		}
	}
	for i, m := range wrongMachs() {
		if !isZeroMach(impl.StepMach(countDown(), m)) || !isZeroMach(impl.RunMach(countDown(), m, 0)) || !isZeroMach(impl.RunMach(countDown(), m, 5)) {
			t.Errorf("machine %d", i)
		}
	}
}

func TestNothingPanics(t *testing.T) {
	progs := append(wrongProgs(), countDown(), endless())
	machs := append(wrongMachs(), plainMach())
	for _, prog := range progs {
		for _, m := range machs {
			for _, steps := range []int64{math.MinInt64, -1, 0, 1, 3, math.MaxInt64} {
				got := mayPanic(func() {
					impl.ValidFlat(prog)
					impl.ValidMach(m)
					impl.StepMach(prog, m)
					impl.RunMach(prog, m, steps)
				})
				if got != nil {
					t.Fatalf("panic: %v", got)
				}
			}
		}
	}
}

func TestNotRunning(t *testing.T) {
	for _, status := range []int64{impl.Halted, impl.Faulted} {
		for _, pc := range []int64{0, 4, 5, 2000} {
			m := withFlags(true, false)
			m.Status, m.Pc = status, pc
			m.Obs = []impl.Obs{{Kind: impl.ObsAddr, Val: 100}}
			for _, prog := range [][]impl.Ins{countDown(), endless()} {
				wantMach(t, "step", impl.StepMach(prog, m), m)
				wantMach(t, "run of none", impl.RunMach(prog, m, 0), m)
				wantMach(t, "run of many", impl.RunMach(prog, m, 100000), m)
			}
		}
	}
}

func TestPcBehindTheProgram(t *testing.T) {
	for _, pc := range []int64{5, 6, 2000} {
		m := withFlags(true, true)
		m.Pc = pc
		want := cloneMach(m)
		want.Status = impl.Faulted
		wantMach(t, "a step", impl.StepMach(countDown(), m), want)
		wantMach(t, "a run", impl.RunMach(countDown(), m, 10), want)
		wantMach(t, "no steps", impl.RunMach(countDown(), m, 0), m)
	}
	m := plainMach()
	m.Pc = 2000
	if got := impl.StepMach(longProg(2000), m); got.Status != impl.Faulted {
		t.Errorf("behind the longest program: %+v", got)
	}
	m.Pc = 1999
	if got := impl.StepMach(longProg(2000), m); got.Status != impl.Halted || got.Pc != 1999 {
		t.Errorf("at its last instruction: %+v", got)
	}
}

// randomIns is a valid instruction, in which jumps stay within size, with addresses near the plain machine's heaplets.
func randomIns(random *rand.Rand, size int64) impl.Ins {
	row := opRows()[random.Intn(34)]
	x := impl.Ins{Op: row.op}
	for _, field := range []byte(row.fields) {
		low, high := row.bounds(field)
		if row.fields == "I" {
			high = size - 1
		} else if field == 'H' {
			high = 3
		} else if field == 'I' && low < 0 {
			low, high = -9, 16
		}
		x = setField(x, field, low+random.Int63n(high-low+1))
	}
	return x
}

func randomProg(random *rand.Rand) []impl.Ins {
	size := 1 + random.Int63n(30)
	prog := make([]impl.Ins, size)
	for i := range prog {
		prog[i] = randomIns(random, size)
	}
	prog[size-1] = halt
	return prog
}

func randomMach(random *rand.Rand) impl.Mach {
	m := plainMach()
	for i := range m.Regs {
		switch random.Intn(3) {
		case 0:
			m.Regs[i] = uint64(random.Intn(20))
		case 1:
			m.Regs[i] = random.Uint64()
		}
	}
	m.HasZ, m.HasC = random.Intn(3) > 0, random.Intn(3) > 0
	m.Z, m.C = m.HasZ && random.Intn(2) == 0, m.HasC && random.Intn(2) == 0
	m.Pc = random.Int63n(4)
	return m
}

// A run is as many steps, and the steps' machines stay valid.
func TestRunIsSteps(t *testing.T) {
	random := rand.New(rand.NewSource(2))
	for range 3000 {
		prog, m := randomProg(random), randomMach(random)
		stepped := m
		for steps := range int64(25) {
			if !impl.ValidMach(stepped) {
				t.Fatalf("not valid after %d steps: %+v", steps, stepped)
			}
			got := impl.RunMach(prog, m, steps)
			if !sameMach(got, stepped) {
				t.Fatalf("%d steps of %v from %+v:\n got %+v\nwant %+v", steps, prog, m, got, stepped)
			}
			stepped = impl.StepMach(prog, stepped)
		}
	}
}

func TestRunOfParts(t *testing.T) {
	random := rand.New(rand.NewSource(3))
	for range 3000 {
		prog, m := randomProg(random), randomMach(random)
		a, b := random.Int63n(40), random.Int63n(40)
		wantMach(t, "a run of two parts", impl.RunMach(prog, impl.RunMach(prog, m, a), b), impl.RunMach(prog, m, a+b))
	}
	for _, a := range []int64{0, 1, 2, 50000, 99999, 100000} {
		m := withRegs(plainMach(), 100, 200, 300, 30000)
		for _, prog := range [][]impl.Ins{countDown(), endless()} {
			wantMach(t, "a long run of two parts", impl.RunMach(prog, impl.RunMach(prog, m, a), 100000-a), impl.RunMach(prog, m, 100000))
		}
	}
}

func TestArgumentsAreKept(t *testing.T) {
	random := rand.New(rand.NewSource(4))
	for range 3000 {
		prog, m := randomProg(random), randomMach(random)
		m.Status = random.Int63n(3)
		m.Obs = append(make([]impl.Obs, 0, 100), impl.Obs{Kind: impl.ObsTime, Val: 3})
		oldProg, old := slices.Clone(prog), cloneMach(m)
		spoil(impl.StepMach(prog, m))
		spoil(impl.RunMach(prog, m, random.Int63n(40)))
		if !slices.Equal(prog, oldProg) || !sameMach(m, old) {
			t.Fatalf("an argument is changed: %+v from %+v", m, old)
		}
		if spare := m.Obs[:100]; !slices.Equal(spare[1:], make([]impl.Obs, 99)) {
			t.Fatalf("written behind an argument's list: %+v", spare)
		}
	}
}

// spoil writes into every list of a machine, as far as its memory goes.
func spoil(m impl.Mach) {
	fill(m.Regs, 99)
	for _, h := range m.Heaps {
		fill(h.Data, 99)
	}
	fill(m.Heaps, impl.Heap{})
	fill(m.Obs, impl.Obs{})
}

func fill[T any](list []T, v T) {
	list = list[:cap(list)]
	for i := range list {
		list[i] = v
	}
}

// No two lists of an answer share memory: what is written behind one shows in no other, nor in a second answer.
func TestListsAreApart(t *testing.T) {
	for status := range int64(3) {
		m := plainMach()
		m.Status = status
		m.Obs = []impl.Obs{{Kind: impl.ObsTime, Val: 3}}
		prog := []impl.Ins{{Op: impl.OpStb, D: 3, A: 0}, halt}
		answers := []func() impl.Mach{
			func() impl.Mach { return impl.StepMach(prog, m) },
			func() impl.Mach { return impl.RunMach(prog, m, 0) },
			func() impl.Mach { return impl.RunMach(prog, m, 1) },
		}
		for i, answer := range answers {
			first, second := answer(), answer()
			want := cloneMach(first)
			for h := range first.Heaps {
				fill(first.Heaps[h].Data, 99)
				for other := h + 1; other < len(first.Heaps); other++ {
					if !slices.Equal(first.Heaps[other].Data, want.Heaps[other].Data) {
						t.Errorf("answer %d: heaplets %d and %d share memory", i, h, other)
					}
				}
			}
			spoil(first)
			wantMach(t, "a second answer", second, want)
		}
	}
}

// The example of README.md.
func TestReadmeExample(t *testing.T) {
	prog := []impl.Ins{{Op: impl.OpLdb, D: 1, A: 0, Imm: 2, H: 0}, {Op: impl.OpAddi, D: 1, A: 1, Imm: 1}, halt}
	m := impl.Mach{Regs: make([]uint64, impl.RegCount), Heaps: []impl.Heap{{Base: 1000, Data: []byte{5, 6, 7}}}}
	m.Regs[0] = 1000
	end := impl.RunMach(prog, m, 10)
	if end.Status != impl.Halted || end.Regs[1] != 8 || !slices.Equal(end.Obs, []impl.Obs{{Kind: impl.ObsAddr, Val: 1002}}) {
		t.Errorf("the example: %+v", end)
	}
}
