package tests

import (
	"math"
	"math/rand"
	"slices"
	"testing"

	"loop.example/s01319/impl"
)

// countLoop counts r3 down to 0, r4 being 2 more each time: 1 + 4 a round + 1 of fuel.
func countLoop() []impl.Stmt {
	return []impl.Stmt{cmpiStmt(3, 0), whileStmt(impl.CondNz, 3), addiStmt(4, 2), addiStmt(3, -1), cmpiStmt(3, 0)}
}

func TestEvalFuel(t *testing.T) {
	m := plainMach()
	flag := func(m impl.Mach, z bool) impl.Mach {
		m.HasZ, m.HasC, m.Z = true, true, z
		return m
	}
	for fuel := range int64(30) {
		want := impl.EvalRes{Ok: true, Used: min(fuel, 22), Mach: plainMach()}
		if fuel > 0 {
			want.Mach = flag(want.Mach, false)
		}
		// The rounds that began, and what of each was done.
		for round := int64(0); round < 5 && fuel >= 2+4*round; round++ {
			want.Mach.Obs = append(want.Mach.Obs, impl.Obs{Kind: impl.ObsBranch})
			if fuel >= 3+4*round {
				want.Mach.Regs[4] += 2
			}
			if fuel >= 4+4*round {
				want.Mach.Regs[3]--
			}
			if fuel >= 5+4*round {
				want.Mach = flag(want.Mach, round == 4)
			}
		}
		if fuel >= 22 {
			want.Done, want.Mach.Status = true, impl.Halted
			want.Mach.Obs = append(want.Mach.Obs, impl.Obs{Kind: impl.ObsBranch, Val: 1})
		}
		wantEval(t, "the loop", impl.Eval(countLoop(), m, fuel), want)
	}
}

func TestEvalNothing(t *testing.T) {
	want := impl.EvalRes{Ok: true, Done: true, Mach: plainMach()}
	want.Mach.Status = impl.Halted
	for _, fuel := range []int64{0, 1, 40000} {
		wantEval(t, "no statements", impl.Eval(nil, plainMach(), fuel), want)
	}
	one := impl.EvalRes{Ok: true, Mach: plainMach()}
	wantEval(t, "one statement without fuel", impl.Eval([]impl.Stmt{movStmt}, plainMach(), 0), one)
	wantEval(t, "an if without fuel", impl.Eval([]impl.Stmt{ifStmt(1, 0, 0)}, plainMach(), 0), one)
	wantEval(t, "a while without fuel", impl.Eval([]impl.Stmt{whileStmt(1, 0)}, plainMach(), 0), one)
}

func TestEvalFuelBounds(t *testing.T) {
	for _, fuel := range []int64{math.MinInt64, -1, 40001, math.MaxInt64} {
		for _, stmts := range [][]impl.Stmt{nil, countLoop()} {
			wantEval(t, "fuel out of bounds", impl.Eval(stmts, plainMach(), fuel), impl.EvalRes{})
		}
	}
	endless := []impl.Stmt{whileStmt(impl.CondZ, 1), addiStmt(3, 1)}
	m := withFlags(true, false)
	for _, fuel := range []int64{39999, 40000} {
		want := impl.EvalRes{Ok: true, Used: fuel, Mach: cloneMach(m)}
		want.Mach.Obs = make([]impl.Obs, 20000)
		fill(want.Mach.Obs, impl.Obs{Kind: impl.ObsBranch})
		want.Mach.Regs[3] += uint64(fuel / 2)
		wantEval(t, "an endless loop", impl.Eval(endless, m, fuel), want)
	}
	// 1 + 4 * 9999 + 1 and two more: all the fuel there is, and one statement too many.
	m = withRegs(plainMach(), 100, 200, 300, 9999)
	full := append(countLoop(), movStmt, movStmt)
	got := impl.Eval(full, m, 40000)
	if !got.Done || got.Used != 40000 || got.Mach.Status != impl.Halted {
		t.Errorf("just FuelMax: Done %v, Used %d", got.Done, got.Used)
	}
	got = impl.Eval(append(full, movStmt), m, 40000)
	if got.Done || got.Used != 40000 || got.Mach.Status != impl.Running {
		t.Errorf("one more than FuelMax: Done %v, Used %d", got.Done, got.Used)
	}
}

// Each Cond with each flag: what is done, and what is seen.
func TestEvalConds(t *testing.T) {
	for cond := int64(1); cond <= 4; cond++ {
		for _, z := range []bool{false, true} {
			for _, c := range []bool{false, true} {
				holds := []bool{z, !z, c, !c}[cond-1]
				m := withFlags(z, c)
				want := impl.EvalRes{Ok: true, Done: true, Used: 2, Mach: cloneMach(m)}
				want.Mach.Status = impl.Halted
				want.Mach.Regs[5] = 2
				want.Mach.Obs = []impl.Obs{{Kind: impl.ObsBranch, Val: 1}}
				if holds {
					want.Mach.Regs[5] = 1
					want.Mach.Obs[0].Val = 0
				}
				wantEval(t, "an if with both", impl.Eval([]impl.Stmt{ifStmt(cond, 1, 1), moviStmt(5, 1), moviStmt(5, 2)}, m, 10), want)
				alone := impl.EvalRes{Ok: true, Done: true, Used: 1, Mach: cloneMach(m)}
				alone.Mach.Status, alone.Mach.Obs = impl.Halted, want.Mach.Obs
				if holds {
					alone.Used, alone.Mach.Regs[5] = 2, 1
				}
				wantEval(t, "an if without Else", impl.Eval([]impl.Stmt{ifStmt(cond, 1, 0), moviStmt(5, 1)}, m, 10), alone)
				if !holds {
					wantEval(t, "a while that isn't begun", impl.Eval([]impl.Stmt{whileStmt(cond, 1), moviStmt(5, 1)}, m, 10), alone)
				} else if got := impl.Eval([]impl.Stmt{whileStmt(cond, 1), moviStmt(5, 1)}, m, 10); got.Done || got.Used != 10 || len(got.Mach.Obs) != 5 {
					t.Errorf("a while that goes on: %+v", got)
				}
			}
		}
	}
}

func TestEvalFuelEndsAtCondition(t *testing.T) {
	m := withFlags(true, false)
	for _, s := range []impl.Stmt{ifStmt(1, 1, 0), whileStmt(1, 1), ifStmt(2, 0, 1)} {
		list := []impl.Stmt{moviStmt(5, 9), s, moviStmt(5, 1)}
		ahead := impl.EvalRes{Ok: true, Used: 1, Mach: cloneMach(m)}
		ahead.Mach.Regs[5] = 9
		wantEval(t, "ahead of the condition", impl.Eval(list, m, 1), ahead)
		ahead.Used = 2
		ahead.Mach.Obs = []impl.Obs{{Kind: impl.ObsBranch, Val: uint64(s.Cond - 1)}}
		wantEval(t, "behind the condition", impl.Eval(list, m, 2), ahead)
	}
	// The last thing is a condition: the fuel is enough when it is looked at.
	last := []impl.Stmt{movStmt, ifStmt(2, 1, 0), movStmt}
	if got := impl.Eval(last, m, 1); got.Done || got.Used != 1 {
		t.Errorf("one less: %+v", got)
	}
	if got := impl.Eval(last, m, 2); !got.Done || got.Used != 2 || got.Mach.Status != impl.Halted {
		t.Errorf("just enough: %+v", got)
	}
}

func TestEvalUndefinedFlags(t *testing.T) {
	for cond := int64(1); cond <= 4; cond++ {
		m := plainMach()
		m.HasZ, m.HasC = cond > 2, cond <= 2
		for _, s := range []impl.Stmt{ifStmt(cond, 1, 0), ifStmt(cond, 0, 1), whileStmt(cond, 1), ifStmt(cond, 0, 0)} {
			want := impl.EvalRes{Ok: true, Done: true, Used: 2, Mach: cloneMach(m)}
			want.Mach.Status, want.Mach.Regs[5] = impl.Faulted, 9
			wantEval(t, "a condition that is undefined", impl.Eval([]impl.Stmt{moviStmt(5, 9), s, moviStmt(5, 1)}, m, 10), want)
			wantEval(t, "with just that fuel", impl.Eval([]impl.Stmt{moviStmt(5, 9), s, moviStmt(5, 1)}, m, 2), want)
			want.Done, want.Used, want.Mach.Status = false, 1, impl.Running
			wantEval(t, "with one less", impl.Eval([]impl.Stmt{moviStmt(5, 9), s, moviStmt(5, 1)}, m, 1), want)
		}
	}
}

// A fault ends everything, from inside any block, and is used too.
func TestEvalFaults(t *testing.T) {
	load := doStmt(impl.Ins{Op: impl.OpLdb, D: 5, A: 7})
	store := doStmt(impl.Ins{Op: impl.OpStb, D: 5, A: 1, H: 1})
	carry := doStmt(impl.Ins{Op: impl.OpAdc, D: 5})
	for _, row := range []struct {
		s    impl.Stmt
		seen []impl.Obs
	}{{load, []impl.Obs{{Kind: impl.ObsAddr, Val: top}}}, {store, []impl.Obs{{Kind: impl.ObsAddr, Val: 200}}}, {carry, nil}} {
		m := withFlags(true, false)
		m.HasC = false
		want := impl.EvalRes{Ok: true, Done: true, Used: 3, Mach: cloneMach(m)}
		want.Mach.Status, want.Mach.Regs[6] = impl.Faulted, 1
		want.Mach.Obs = append([]impl.Obs{{Kind: impl.ObsBranch}}, row.seen...)
		for _, head := range []impl.Stmt{ifStmt(1, 3, 0), whileStmt(1, 3), ifStmt(1, 3, 1)} {
			list := []impl.Stmt{head, moviStmt(6, 1), row.s, moviStmt(6, 2), moviStmt(6, 3)}
			wantEval(t, "a fault in a block", impl.Eval(list, m, 10), want)
			wantEval(t, "with just that fuel", impl.Eval(list, m, 3), want)
		}
		want.Mach.Obs[0].Val = 1
		wantEval(t, "a fault in an Else", impl.Eval([]impl.Stmt{ifStmt(2, 0, 3), moviStmt(6, 1), row.s, moviStmt(6, 2), moviStmt(6, 3)}, m, 10), want)
		want.Used, want.Mach.Obs = 2, row.seen
		wantEval(t, "a fault in the list", impl.Eval([]impl.Stmt{moviStmt(6, 1), row.s, moviStmt(6, 2)}, m, 10), want)
		want.Used, want.Mach.Obs = 4, append([]impl.Obs{{Kind: impl.ObsBranch}, {Kind: impl.ObsBranch}}, row.seen...)
		wantEval(t, "a fault in a block of a block", impl.Eval([]impl.Stmt{whileStmt(1, 5), ifStmt(1, 3, 0), moviStmt(6, 1), row.s, moviStmt(6, 2), moviStmt(6, 3), moviStmt(6, 4)}, m, 10), want)
	}
}

func TestEvalMachines(t *testing.T) {
	for i, m := range wrongMachs() {
		for _, stmts := range [][]impl.Stmt{nil, countLoop()} {
			if got := impl.Eval(stmts, m, 10); !sameEval(got, impl.EvalRes{}) {
				t.Errorf("machine %d: %+v", i, got)
			}
		}
	}
	for _, status := range []int64{impl.Halted, impl.Faulted} {
		m := plainMach()
		m.Status = status
		wantEval(t, "a machine that isn't Running", impl.Eval(countLoop(), m, 100), impl.EvalRes{})
	}
	base := impl.Eval(countLoop(), plainMach(), 40000)
	for _, pc := range []int64{1, 3, 1999, 2000} {
		m := plainMach()
		m.Pc = pc
		wantEval(t, "a Pc that isn't 0", impl.Eval(countLoop(), m, 40000), base)
		short := impl.EvalRes{Ok: true, Mach: plainMach()}
		wantEval(t, "a Pc that isn't 0, no fuel", impl.Eval(countLoop(), m, 0), short)
		short.Done, short.Mach.Status = true, impl.Halted
		wantEval(t, "a Pc that isn't 0, no statements", impl.Eval(nil, m, 0), short)
		fault := impl.EvalRes{Ok: true, Done: true, Used: 1, Mach: plainMach()}
		fault.Mach.Status = impl.Faulted
		wantEval(t, "a Pc that isn't 0, a fault", impl.Eval([]impl.Stmt{whileStmt(1, 0)}, m, 5), fault)
	}
}

func TestEvalSeen(t *testing.T) {
	got := impl.Eval(countLoop(), seeing(100000), 100)
	if !got.Done || len(got.Mach.Obs) != 100006 || got.Mach.Obs[99999].Kind != impl.ObsTime || got.Mach.Obs[100005] != (impl.Obs{Kind: impl.ObsBranch, Val: 1}) {
		t.Errorf("100000 seen: %s", showMach(got.Mach))
	}
	full := seeing(100000)
	full.HasZ = true
	got = impl.Eval([]impl.Stmt{whileStmt(impl.CondNz, 0)}, full, 40000)
	if got.Done || len(got.Mach.Obs) != 140000 || !impl.ValidMach(got.Mach) {
		t.Errorf("100000 seen, and 40000 more: %s", showMach(got.Mach))
	}
	for _, size := range []int{100001, 200000} {
		for _, stmts := range [][]impl.Stmt{nil, countLoop()} {
			wantEval(t, "too much seen", impl.Eval(stmts, seeing(size), 100), impl.EvalRes{})
		}
	}
}

// wantAsFlat holds Eval against the lowered program: the fifth and the sixth promise.
func wantAsFlat(t *testing.T, stmts []impl.Stmt, m impl.Mach, fuel int64) impl.EvalRes {
	t.Helper()
	got := impl.Eval(stmts, m, fuel)
	flat := impl.Lower(stmts)
	if !got.Ok || !impl.ValidFlat(flat) || !impl.ValidMach(got.Mach) || got.Used > fuel || got.Mach.Pc != 0 {
		t.Fatalf("%+v with fuel %d: %+v", stmts, fuel, got)
	}
	if !got.Done {
		if end := impl.RunMach(flat, m, fuel); end.Status != impl.Running || got.Used != fuel || got.Mach.Status != impl.Running {
			t.Fatalf("%+v with fuel %d is not done: %+v, flat %+v", stmts, fuel, got, end)
		}
		return got
	}
	if steps := 2*got.Used + 1; steps <= impl.StepMax {
		end := impl.RunMach(flat, m, steps)
		end.Pc = 0
		if !sameMach(end, got.Mach) || end.Status == impl.Running {
			t.Fatalf("%+v with fuel %d: %+v, flat %+v", stmts, fuel, got, end)
		}
	}
	return got
}

func TestEvalAsFlat(t *testing.T) {
	random := rand.New(rand.NewSource(10))
	ends := map[int64]int{}
	for i := range 8000 {
		stmts, m := randomStmts(random, random.Intn(4+i/200), 4, 0, 0), randomMach(random)
		m.Pc = 0
		if random.Intn(2) == 0 {
			m.HasZ, m.HasC = true, true
		}
		fuel := random.Int63n(60)
		got := wantAsFlat(t, stmts, m, fuel)
		ends[got.Mach.Status]++
		wantEval(t, "a second meaning", got, slowEvalOf(stmts, m, fuel))
		if got.Done && got.Used > 0 {
			wantEval(t, "just enough fuel", wantAsFlat(t, stmts, m, got.Used), got)
			if less := wantAsFlat(t, stmts, m, got.Used-1); less.Done {
				t.Fatalf("%+v: done with less than is used", stmts)
			}
		}
	}
	for status := range int64(3) {
		if ends[status] < 500 {
			t.Errorf("Status %d came %d times", status, ends[status])
		}
	}
}

func TestEvalOfUnitsAsFlat(t *testing.T) {
	random := rand.New(rand.NewSource(11))
	for range 2000 {
		procs := randomUnit(random, 1+random.Int63n(4))
		if impl.CheckUnit(procs).Err != impl.UnitOk {
			continue
		}
		m := randomMach(random)
		m.Pc = 0
		wantAsFlat(t, impl.Inline(procs), m, random.Int63n(200))
	}
	deep := nested(321, impl.SWhile)
	for i := range deep {
		deep[i].Cond = impl.CondNz
		deep[i].Then++
	}
	deep = append(deep, cmpiStmt(5, 0))
	m := withFlags(false, false)
	if got := wantAsFlat(t, deep, m, 1000); !got.Done || got.Used != 643 || got.Mach.Status != impl.Halted {
		t.Errorf("the deepest list: Done %v, Used %d", got.Done, got.Used)
	}
}

func TestEvalKeepsItsArguments(t *testing.T) {
	random := rand.New(rand.NewSource(12))
	for range 2000 {
		list := append(make([]impl.Stmt, 0, 60), randomStmts(random, random.Intn(10), 3, 0, 0)...)
		m := randomMach(random)
		m.Obs = append(make([]impl.Obs, 0, 50), impl.Obs{Kind: impl.ObsTime, Val: 3})
		oldList, old := slices.Clone(list[:cap(list)]), cloneMach(m)
		fuel := random.Int63n(30)
		first, second := impl.Eval(list, m, fuel), impl.Eval(list, m, fuel)
		want := cloneMach(second.Mach)
		spoil(first.Mach)
		wantMach(t, "a second answer", second.Mach, want)
		if !slices.Equal(list[:cap(list)], oldList) || !sameMach(m, old) || !slices.Equal(m.Obs[:50][1:], make([]impl.Obs, 49)) {
			t.Fatalf("an argument is changed: %+v from %+v", m, old)
		}
		for h := range second.Mach.Heaps {
			fill(second.Mach.Heaps[h].Data, 99)
			for other := h + 1; other < len(want.Heaps); other++ {
				if !slices.Equal(second.Mach.Heaps[other].Data, want.Heaps[other].Data) {
					t.Fatalf("heaplets %d and %d share memory", h, other)
				}
			}
		}
	}
}

func TestStructuredNeverPanics(t *testing.T) {
	edges := []int64{math.MinInt64, -1, 0, 1, 2, 3, 4, 5, 28, math.MaxInt64}
	random := rand.New(rand.NewSource(13))
	pick := func() int64 { return edges[random.Intn(len(edges))] }
	for range 20000 {
		list := make([]impl.Stmt, random.Intn(5))
		for i := range list {
			list[i] = impl.Stmt{Kind: pick(), Cond: pick(), Then: pick(), Else: pick(), Proc: pick()}
			if random.Intn(2) == 0 {
				list[i].Ins = impl.Ins{Op: pick(), D: pick(), A: pick()}
			}
		}
		got := mayPanic(func() {
			impl.CheckUnit(unitOf(list, list))
			impl.Inline(unitOf(list, list))
			impl.Lower(list)
			impl.Eval(list, plainMach(), pick())
		})
		if got != nil {
			t.Fatalf("%+v: %v", list, got)
		}
	}
}

// The example of README.md.
func TestReadmeStructured(t *testing.T) {
	procs := []impl.Proc{
		{Body: []impl.Stmt{
			{Kind: impl.SIns, Ins: impl.Ins{Op: impl.OpCmpi, A: 1}},
			{Kind: impl.SWhile, Cond: impl.CondNz, Then: 2},
			{Kind: impl.SCall, Proc: 1},
			{Kind: impl.SIns, Ins: impl.Ins{Op: impl.OpCmpi, A: 1}},
		}},
		{Body: []impl.Stmt{
			{Kind: impl.SIns, Ins: impl.Ins{Op: impl.OpAdd, D: 2, A: 2, B: 1}},
			{Kind: impl.SIns, Ins: impl.Ins{Op: impl.OpAddi, D: 1, A: 1, Imm: -1}},
		}},
	}
	unit := impl.CheckUnit(procs)
	stmts := impl.Inline(procs)
	m := impl.Mach{Regs: []uint64{0, 4, 0, 0, 0, 0, 0, 0}}
	got := impl.Eval(stmts, m, 100)
	flat := impl.Lower(stmts)
	end := impl.RunMach(flat, m, 2*got.Used+1)
	if unit.Err != impl.UnitOk || len(stmts) != 5 || stmts[1].Then != 3 || !got.Done || got.Used != 18 || got.Mach.Regs[2] != 10 || len(flat) != 7 || end.Regs[2] != 10 || end.Status != impl.Halted {
		t.Errorf("the example: %+v, %+v, %+v, %v", unit, stmts, got, flat)
	}
}
