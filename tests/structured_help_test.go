package tests

import (
	"math/big"
	"math/rand"
	"slices"
	"testing"

	"loop.example/s01319/impl"
)

func doStmt(x impl.Ins) impl.Stmt { return impl.Stmt{Kind: impl.SIns, Ins: x} }

func ifStmt(cond, then, other int64) impl.Stmt {
	return impl.Stmt{Kind: impl.SIf, Cond: cond, Then: then, Else: other}
}

func whileStmt(cond, then int64) impl.Stmt {
	return impl.Stmt{Kind: impl.SWhile, Cond: cond, Then: then}
}

func callStmt(proc int64) impl.Stmt { return impl.Stmt{Kind: impl.SCall, Proc: proc} }

var movStmt = doStmt(impl.Ins{Op: impl.OpMov})

func moviStmt(d, imm int64) impl.Stmt { return doStmt(impl.Ins{Op: impl.OpMovi, D: d, Imm: imm}) }

func addiStmt(r, imm int64) impl.Stmt {
	return doStmt(impl.Ins{Op: impl.OpAddi, D: r, A: r, Imm: imm})
}

func cmpiStmt(r, imm int64) impl.Stmt { return doStmt(impl.Ins{Op: impl.OpCmpi, A: r, Imm: imm}) }

func times(size int, s ...impl.Stmt) []impl.Stmt { return slices.Repeat(s, size) }

func joined(lists ...[]impl.Stmt) []impl.Stmt { return slices.Concat(lists...) }

func unitOf(bodies ...[]impl.Stmt) []impl.Proc {
	procs := make([]impl.Proc, len(bodies))
	for i, body := range bodies {
		procs[i].Body = body
	}
	return procs
}

// nested is so many ifs, or whiles, one inside another, with nothing in the innermost.
func nested(size int64, kind int64) []impl.Stmt {
	var list []impl.Stmt
	for left := size - 1; left >= 0; left-- {
		list = append(list, impl.Stmt{Kind: kind, Cond: impl.CondZ, Then: left})
	}
	return list
}

func wantUnit(t *testing.T, name string, procs []impl.Proc, want impl.UnitRes) {
	t.Helper()
	if got := impl.CheckUnit(procs); got != want {
		t.Errorf("%s: %+v, not %+v", name, got, want)
	}
}

// wantRunnable asks whether Lower and Eval take a list.
func wantRunnable(t *testing.T, name string, stmts []impl.Stmt, want bool) {
	t.Helper()
	if got := len(impl.Lower(stmts)) > 0; got != want {
		t.Errorf("%s: lowered %v", name, got)
	}
	got := impl.Eval(stmts, plainMach(), 10)
	if got.Ok != want || !want && !sameEval(got, impl.EvalRes{}) {
		t.Errorf("%s: Eval is %+v", name, got)
	}
}

func sameEval(a, b impl.EvalRes) bool {
	return a.Ok == b.Ok && a.Done == b.Done && a.Used == b.Used && sameMach(a.Mach, b.Mach)
}

func wantEval(t *testing.T, name string, got, want impl.EvalRes) {
	t.Helper()
	if !sameEval(got, want) {
		t.Errorf("%s: Ok %v, Done %v, Used %d, %s\nnot Ok %v, Done %v, Used %d, %s", name,
			got.Ok, got.Done, got.Used, showMach(got.Mach), want.Ok, want.Done, want.Used, showMach(want.Mach))
	}
}

// slowStmt says field by field whether a statement is as the document has it.
func slowStmt(s impl.Stmt, procs int64) bool {
	plain := s.Ins == impl.Ins{}
	cond := s.Cond == 1 || s.Cond == 2 || s.Cond == 3 || s.Cond == 4
	switch s.Kind {
	case 1:
		return impl.ValidIns(s.Ins) && s.Ins.Op <= 28 && s.Cond == 0 && s.Then == 0 && s.Else == 0 && s.Proc == 0
	case 2:
		return plain && cond && s.Then >= 0 && s.Else >= 0 && s.Proc == 0
	case 3:
		return plain && cond && s.Then >= 0 && s.Else == 0 && s.Proc == 0
	case 4:
		return plain && s.Cond == 0 && s.Then == 0 && s.Else == 0 && s.Proc >= 0 && s.Proc < procs
	}
	return false
}

// slowError finds the first thing wrong in one list, by the blocks of all statements ahead of each.
func slowError(list []impl.Stmt, own, procs, deepest int64) (err, at int64) {
	type stretch struct{ from, to *big.Int }
	var blocks []stretch
	for i, s := range list {
		here := big.NewInt(int64(i))
		depth, end := int64(0), big.NewInt(int64(len(list)))
		for _, b := range blocks {
			if b.from.Cmp(here) <= 0 && here.Cmp(b.to) < 0 {
				depth++
				if b.to.Cmp(end) < 0 {
					end = b.to
				}
			}
		}
		if !slowStmt(s, procs) {
			return impl.UnitStmt, int64(i)
		}
		first := big.NewInt(int64(i) + 1)
		second := new(big.Int).Add(first, big.NewInt(s.Then))
		last := new(big.Int).Add(second, big.NewInt(s.Else))
		if last.Cmp(end) > 0 {
			return impl.UnitShape, int64(i)
		}
		if (s.Kind == 2 || s.Kind == 3) && depth > deepest {
			return impl.UnitDepth, int64(i)
		}
		if s.Kind == 4 && s.Proc <= own {
			return impl.UnitRecursive, int64(i)
		}
		blocks = append(blocks, stretch{first, second}, stretch{second, last})
	}
	return impl.UnitOk, 0
}

func slowCheck(procs []impl.Proc) impl.UnitRes {
	if len(procs) < 1 || len(procs) > 20 {
		return impl.UnitRes{Err: impl.UnitSize}
	}
	for i, p := range procs {
		if len(p.Body) > 500 {
			return impl.UnitRes{Err: impl.UnitSize, Proc: int64(i)}
		}
		if err, at := slowError(p.Body, int64(i), int64(len(procs)), 15); err != impl.UnitOk {
			return impl.UnitRes{Err: err, Proc: int64(i), At: at}
		}
	}
	if slowSizes(procs)[0].Cmp(big.NewInt(1999)) > 0 {
		return impl.UnitRes{Err: impl.UnitFlat}
	}
	return impl.UnitRes{}
}

// slowSizes counts each procedure's instructions as whole numbers, without the halt.
func slowSizes(procs []impl.Proc) []*big.Int {
	sizes := make([]*big.Int, len(procs))
	for i := len(procs) - 1; i >= 0; i-- {
		sizes[i] = new(big.Int)
		for _, s := range procs[i].Body {
			switch s.Kind {
			case impl.SIns:
				sizes[i].Add(sizes[i], big.NewInt(1))
			case impl.SCall:
				sizes[i].Add(sizes[i], sizes[s.Proc])
			default:
				sizes[i].Add(sizes[i], big.NewInt(2))
			}
		}
	}
	return sizes
}

// slowInline counts, of each block, what its statements are replaced by.
func slowInline(procs []impl.Proc, number int) []impl.Stmt {
	body := procs[number].Body
	parts := make([][]impl.Stmt, len(body))
	for i, s := range body {
		parts[i] = []impl.Stmt{s}
		if s.Kind == impl.SCall {
			parts[i] = slowInline(procs, int(s.Proc))
		}
	}
	for i, s := range body {
		if s.Kind == impl.SIf || s.Kind == impl.SWhile {
			middle := i + 1 + int(s.Then)
			parts[i][0].Then = int64(len(joined(parts[i+1 : middle]...)))
			parts[i][0].Else = int64(len(joined(parts[middle : middle+int(s.Else)]...)))
		}
	}
	return joined(parts...)
}

// slowLower counts places: a statement stands behind one instruction for each ahead of it and one for each block's closing jump ahead of it.
func slowLower(list []impl.Stmt) []impl.Ins {
	ends := make([]int, len(list)) // where the block of a closing jump ends
	for i, s := range list {
		ends[i] = -1
		if s.Kind != impl.SIns {
			ends[i] = i + 1 + int(s.Then)
		}
	}
	// behind is the place at the end of a block of statement own, outer blocks that end there being still open.
	behind := func(end, own int) int64 {
		place := end
		for i, e := range ends {
			if e >= 0 && (e < end || e == end && i >= own) {
				place++
			}
		}
		return int64(place)
	}
	prog := make([]impl.Ins, behind(len(list), 0)+1)
	skips := []int64{impl.CondZ: impl.OpJnz, impl.CondNz: impl.OpJz, impl.CondC: impl.OpJnc, impl.CondNc: impl.OpJc}
	for i, s := range list {
		at := behind(i, 0)
		switch s.Kind {
		case impl.SIns:
			prog[at] = s.Ins
		case impl.SIf:
			then := behind(ends[i], i)
			prog[at] = impl.Ins{Op: skips[s.Cond], Imm: then}
			prog[then-1] = impl.Ins{Op: impl.OpJmp, Imm: behind(ends[i]+int(s.Else), i)}
		case impl.SWhile:
			end := behind(ends[i], i)
			prog[at] = impl.Ins{Op: skips[s.Cond], Imm: end}
			prog[end-1] = impl.Ins{Op: impl.OpJmp, Imm: at}
		}
	}
	prog[len(prog)-1] = halt
	return prog
}

// slowEval goes through the list itself, an instruction being a program of its own.
type slowEval struct {
	list []impl.Stmt
	mach impl.Mach
	fuel int64
	used int64
	dry  bool
}

func slowEvalOf(list []impl.Stmt, m impl.Mach, fuel int64) impl.EvalRes {
	e := &slowEval{list: list, mach: cloneMach(m), fuel: fuel}
	e.stretch(0, len(list))
	if !e.dry && e.mach.Status == impl.Running {
		e.mach.Status = impl.Halted
	}
	e.mach.Pc = 0
	return impl.EvalRes{Ok: true, Done: !e.dry, Used: e.used, Mach: e.mach}
}

func (e *slowEval) stopped() bool { return e.dry || e.mach.Status != impl.Running }

func (e *slowEval) burn() bool {
	if e.used >= e.fuel {
		e.dry = true
		return false
	}
	e.used++
	return true
}

func (e *slowEval) stretch(from, to int) {
	for i := from; i < to && !e.stopped(); {
		s := e.list[i]
		middle := i + 1 + int(s.Then)
		end := middle + int(s.Else)
		switch s.Kind {
		case impl.SIns:
			if e.burn() {
				e.mach.Pc = 0
				e.mach = impl.StepMach([]impl.Ins{s.Ins, halt}, e.mach)
			}
		case impl.SIf:
			if e.holds(s.Cond) {
				e.stretch(i+1, middle)
			} else if !e.stopped() {
				e.stretch(middle, end)
			}
		case impl.SWhile:
			for e.holds(s.Cond) {
				e.stretch(i+1, middle)
			}
		}
		i = end
	}
}

// holds looks at a condition, if there is something left to look with.
func (e *slowEval) holds(cond int64) bool {
	if e.stopped() || !e.burn() {
		return false
	}
	flag, has := e.mach.Z, e.mach.HasZ
	if cond == impl.CondC || cond == impl.CondNc {
		flag, has = e.mach.C, e.mach.HasC
	}
	if !has {
		e.mach.Status = impl.Faulted
		return false
	}
	yes := flag == (cond == impl.CondZ || cond == impl.CondC)
	seen := impl.Obs{Kind: impl.ObsBranch, Val: 1}
	if yes {
		seen.Val = 0
	}
	e.mach.Obs = append(e.mach.Obs, seen)
	return yes
}

// randomStmts is a shaped list of about so many statements, with calls of the procedures from low up to high, if there are any. Some of its loops count down.
func randomStmts(random *rand.Rand, size, depth int, low, high int64) []impl.Stmt {
	var list []impl.Stmt
	for len(list) < size {
		switch pick := random.Intn(10); {
		case pick < 2 && depth > 0:
			then := randomStmts(random, random.Intn(1+size/2), depth-1, low, high)
			other := randomStmts(random, random.Intn(1+size/3), depth-1, low, high)
			list = append(list, ifStmt(1+random.Int63n(4), int64(len(then)), int64(len(other))))
			list = joined(list, then, other)
		case pick < 4 && depth > 0:
			body := randomStmts(random, random.Intn(1+size/2), depth-1, low, high)
			if r := random.Int63n(8); pick == 3 {
				list = append(list, moviStmt(r, random.Int63n(4)), cmpiStmt(r, 0))
				body = append(body, addiStmt(r, -1), cmpiStmt(r, 0))
			}
			list = append(list, whileStmt(1+random.Int63n(4), int64(len(body))))
			if pick == 3 {
				list[len(list)-1].Cond = impl.CondNz
			}
			list = append(list, body...)
		case pick < 5 && low < high:
			list = append(list, callStmt(low+random.Int63n(high-low)))
		default:
			list = append(list, randomDo(random))
		}
	}
	return list
}

// randomDo is mostly an instruction that can't fault.
func randomDo(random *rand.Rand) impl.Stmt {
	for {
		x := randomIns(random, 1)
		if x.Op <= impl.OpSelc || x.Op <= impl.OpStqx && random.Intn(4) == 0 {
			return doStmt(x)
		}
	}
}

func randomUnit(random *rand.Rand, procs int64) []impl.Proc {
	unit := make([]impl.Proc, procs)
	for i := range unit {
		unit[i].Body = randomStmts(random, random.Intn(12), 3, int64(i)+1, procs)
	}
	return unit
}
