package tests

import (
	"math"
	"math/rand"
	"slices"
	"testing"

	"loop.example/s01319/impl"
)

func TestStructuredConstants(t *testing.T) {
	got := []int64{
		impl.StmtMax, impl.ProcMax, impl.DepthMax, impl.FuelMax,
		impl.SIns, impl.SIf, impl.SWhile, impl.SCall,
		impl.CondZ, impl.CondNz, impl.CondC, impl.CondNc,
		impl.UnitOk, impl.UnitSize, impl.UnitStmt, impl.UnitShape, impl.UnitDepth, impl.UnitRecursive, impl.UnitFlat,
	}
	want := []int64{500, 20, 16, 40000, 1, 2, 3, 4, 1, 2, 3, 4, 0, 1, 2, 3, 4, 5, 6}
	if !slices.Equal(got, want) {
		t.Errorf("%v", got)
	}
}

func TestUnitSize(t *testing.T) {
	size := impl.UnitRes{Err: impl.UnitSize}
	wantUnit(t, "no procedure", nil, size)
	wantUnit(t, "no procedure", []impl.Proc{}, size)
	wantUnit(t, "one that is empty", unitOf(nil), impl.UnitRes{})
	wantUnit(t, "20 that are empty", make([]impl.Proc, 20), impl.UnitRes{})
	wantUnit(t, "21 that are empty", make([]impl.Proc, 21), size)
	wantUnit(t, "21 with errors of their own", slices.Repeat(unitOf([]impl.Stmt{{}}), 21), size)
	wantUnit(t, "100000", make([]impl.Proc, 100000), size)
	for number := range int64(20) {
		for _, total := range []int64{number + 1, 20} {
			procs := make([]impl.Proc, total)
			procs[number].Body = times(500, movStmt)
			wantUnit(t, "500 statements", procs, impl.UnitRes{})
			procs[number].Body = times(501, movStmt)
			wantUnit(t, "501 statements", procs, impl.UnitRes{Err: impl.UnitSize, Proc: number})
			procs[number].Body = times(501, impl.Stmt{})
			wantUnit(t, "501 wrong statements", procs, impl.UnitRes{Err: impl.UnitSize, Proc: number})
		}
	}
}

// A procedure is looked at to its end ahead of the next one's size, and its size ahead of its statements.
func TestUnitProcedureOrder(t *testing.T) {
	wrong := []impl.Stmt{movStmt, {}}
	long := times(501, impl.Stmt{})
	wantUnit(t, "a wrong one, then a long one", unitOf(wrong, long), impl.UnitRes{Err: impl.UnitStmt, At: 1})
	wantUnit(t, "a long one, then a wrong one", unitOf(long, wrong), impl.UnitRes{Err: impl.UnitSize})
	wantUnit(t, "two wrong ones behind a good one", unitOf(nil, wrong, wrong[1:]), impl.UnitRes{Err: impl.UnitStmt, Proc: 1, At: 1})
	wantUnit(t, "two long ones", unitOf(nil, nil, long, long), impl.UnitRes{Err: impl.UnitSize, Proc: 2})
	wantUnit(t, "one that is too long flat, then a wrong one", unitOf(times(500, callStmt(1)), times(500, movStmt), wrong), impl.UnitRes{Err: impl.UnitStmt, Proc: 2, At: 1})
}

// wantOneStmt asks what is wrong with one statement, alone in a procedure and among others.
func wantOneStmt(t *testing.T, s impl.Stmt, err int64) {
	t.Helper()
	wantUnit(t, "alone", unitOf([]impl.Stmt{s}, nil), impl.UnitRes{Err: err})
	behind := unitOf(nil, nil, []impl.Stmt{movStmt, ifStmt(1, 1, 1), movStmt, s, movStmt}, nil)
	want := impl.UnitRes{Err: err}
	if err != impl.UnitOk {
		want.Proc, want.At = 2, 3
	}
	wantUnit(t, "among others", behind, want)
}

func TestUnitKinds(t *testing.T) {
	for _, kind := range []int64{math.MinInt64, -1, 0, 5, 6, math.MaxInt64} {
		wantOneStmt(t, impl.Stmt{Kind: kind}, impl.UnitStmt)
		wantOneStmt(t, impl.Stmt{Kind: kind, Ins: movStmt.Ins}, impl.UnitStmt)
		wantOneStmt(t, impl.Stmt{Kind: kind, Cond: 1}, impl.UnitStmt)
	}
}

func TestUnitInstructions(t *testing.T) {
	eachBound(func(x impl.Ins) {
		want, ok := impl.UnitRes{}, impl.ValidIns(x) && x.Op <= 28
		if !ok {
			want.Err = impl.UnitStmt
		}
		wantUnit(t, "an instruction", unitOf([]impl.Stmt{doStmt(x)}), want)
		wantRunnable(t, "an instruction", []impl.Stmt{doStmt(x)}, ok)
	})
	for _, x := range []impl.Ins{
		{}, {Op: -1}, {Op: 35}, {Op: math.MinInt64}, {Op: impl.OpMov, D: 8}, {Op: impl.OpMov, A: -1}, {Op: impl.OpMov, B: 1}, {Op: impl.OpMov, Imm: 1}, {Op: impl.OpMov, H: 1},
		{Op: impl.OpShl, Imm: 64}, {Op: impl.OpMovi, Imm: 1000001}, {Op: impl.OpLdb, H: 8},
		{Op: impl.OpJmp}, {Op: impl.OpJz}, {Op: impl.OpJnz}, {Op: impl.OpJc, Imm: 1}, {Op: impl.OpJnc}, {Op: impl.OpHalt},
	} {
		wantOneStmt(t, doStmt(x), impl.UnitStmt)
		wantRunnable(t, "an instruction that isn't as it should be", []impl.Stmt{doStmt(x)}, false)
	}
}

// fieldsOfStmt has each field of a statement but its Kind, with the Kinds that use it.
func fieldsOfStmt() []struct {
	kinds []int64
	set   func(s *impl.Stmt, v int64)
} {
	return []struct {
		kinds []int64
		set   func(s *impl.Stmt, v int64)
	}{
		{[]int64{1}, func(s *impl.Stmt, v int64) { s.Ins.Op = v }},
		{[]int64{1}, func(s *impl.Stmt, v int64) { s.Ins.D = v }},
		{[]int64{1}, func(s *impl.Stmt, v int64) { s.Ins.A = v }},
		{[]int64{1}, func(s *impl.Stmt, v int64) { s.Ins.B = v }},
		{[]int64{1}, func(s *impl.Stmt, v int64) { s.Ins.Imm = v }},
		{[]int64{1}, func(s *impl.Stmt, v int64) { s.Ins.H = v }},
		{[]int64{2, 3}, func(s *impl.Stmt, v int64) { s.Cond = v }},
		{[]int64{2, 3}, func(s *impl.Stmt, v int64) { s.Then = v }},
		{[]int64{2}, func(s *impl.Stmt, v int64) { s.Else = v }},
		{[]int64{4}, func(s *impl.Stmt, v int64) { s.Proc = v }},
	}
}

func TestUnitUnusedFields(t *testing.T) {
	plain := []impl.Stmt{movStmt, ifStmt(1, 0, 0), whileStmt(1, 0), callStmt(3)}
	for _, s := range plain {
		wantUnit(t, "a plain statement", unitOf([]impl.Stmt{s, movStmt}, nil, nil, nil), impl.UnitRes{})
		for i, field := range fieldsOfStmt() {
			if slices.Contains(field.kinds, s.Kind) {
				continue
			}
			for _, v := range []int64{math.MinInt64, -1, 1, 2, math.MaxInt64} {
				changed := s
				field.set(&changed, v)
				list := []impl.Stmt{changed, movStmt}
				if got := impl.CheckUnit(unitOf(list, nil, nil, nil)); got != (impl.UnitRes{Err: impl.UnitStmt}) {
					t.Errorf("Kind %d, field %d at %d: %+v", s.Kind, i, v, got)
				}
				wantRunnable(t, "a field that isn't used", list, false)
			}
		}
	}
}

func TestUnitConds(t *testing.T) {
	for _, cond := range []int64{math.MinInt64, -1, 0, 1, 2, 3, 4, 5, math.MaxInt64} {
		want := int64(impl.UnitStmt)
		if cond >= 1 && cond <= 4 {
			want = impl.UnitOk
		}
		wantOneStmt(t, ifStmt(cond, 0, 0), want)
		wantOneStmt(t, whileStmt(cond, 0), want)
		wantRunnable(t, "an if", []impl.Stmt{ifStmt(cond, 0, 0)}, want == impl.UnitOk)
		wantRunnable(t, "a while", []impl.Stmt{whileStmt(cond, 0)}, want == impl.UnitOk)
	}
}

func TestUnitCounts(t *testing.T) {
	for _, row := range []struct {
		s   impl.Stmt
		err int64
	}{
		{ifStmt(1, -1, 0), impl.UnitStmt},
		{ifStmt(1, 0, -1), impl.UnitStmt},
		{ifStmt(1, -1, 1), impl.UnitStmt},
		{ifStmt(1, 1, -1), impl.UnitStmt},
		{ifStmt(1, math.MinInt64, math.MinInt64), impl.UnitStmt},
		{ifStmt(1, math.MaxInt64, -1), impl.UnitStmt},
		{ifStmt(1, math.MaxInt64, math.MinInt64), impl.UnitStmt},
		{whileStmt(1, -1), impl.UnitStmt},
		{whileStmt(1, math.MinInt64), impl.UnitStmt},
		{ifStmt(1, math.MaxInt64, 0), impl.UnitShape},
		{ifStmt(1, 0, math.MaxInt64), impl.UnitShape},
		{ifStmt(1, 1, math.MaxInt64), impl.UnitShape},
		{ifStmt(1, math.MaxInt64, 1), impl.UnitShape},
		{ifStmt(1, math.MaxInt64, math.MaxInt64), impl.UnitShape},
		{ifStmt(1, 1<<62, 1<<62), impl.UnitShape},
		{ifStmt(1, 1<<62, 3<<61), impl.UnitShape},
		{ifStmt(1, 2, 0), impl.UnitShape},
		{ifStmt(1, 0, 2), impl.UnitShape},
		{whileStmt(1, 2), impl.UnitShape},
		{whileStmt(1, math.MaxInt64), impl.UnitShape},
	} {
		wantUnit(t, "first of two", unitOf([]impl.Stmt{row.s, movStmt}), impl.UnitRes{Err: row.err})
		wantUnit(t, "first of two in a block", unitOf(nil, []impl.Stmt{whileStmt(1, 2), row.s, movStmt}), impl.UnitRes{Err: row.err, Proc: 1, At: 1})
		wantRunnable(t, "first of two", []impl.Stmt{row.s, movStmt}, false)
	}
}

func TestUnitCalls(t *testing.T) {
	for total := int64(1); total <= 20; total++ {
		for own := range total {
			for _, proc := range []int64{math.MinInt64, -1, 0, own - 1, own, own + 1, total - 1, total, total + 1, math.MaxInt64} {
				procs := make([]impl.Proc, total)
				procs[own].Body = []impl.Stmt{movStmt, callStmt(proc)}
				want := impl.UnitRes{Proc: own, At: 1}
				switch {
				case proc < 0 || proc >= total:
					want.Err = impl.UnitStmt
				case proc <= own:
					want.Err = impl.UnitRecursive
				default:
					want = impl.UnitRes{}
				}
				wantUnit(t, "a call", procs, want)
			}
		}
	}
}

// Each block around is run over by one statement in turn, and each just fits.
func TestUnitBlocks(t *testing.T) {
	rows := []struct {
		name string
		list []impl.Stmt
		at   int64 // of the block that doesn't fit, -1 if all do
	}{
		{"Then at the end", []impl.Stmt{movStmt, ifStmt(1, 1, 0), movStmt}, -1},
		{"Then over the end", []impl.Stmt{movStmt, ifStmt(1, 2, 0), movStmt}, 1},
		{"Else at the end", []impl.Stmt{ifStmt(1, 1, 1), movStmt, movStmt}, -1},
		{"Else over the end", []impl.Stmt{ifStmt(1, 1, 2), movStmt, movStmt}, 0},
		{"only Else at the end", []impl.Stmt{ifStmt(1, 0, 1), movStmt}, -1},
		{"only Else over the end", []impl.Stmt{ifStmt(1, 0, 2), movStmt}, 0},
		{"a while at the end", []impl.Stmt{whileStmt(1, 1), movStmt}, -1},
		{"a while over the end", []impl.Stmt{whileStmt(1, 2), movStmt}, 0},
		{"a last while", []impl.Stmt{movStmt, whileStmt(1, 1)}, 1},
		{"a last while of nothing", []impl.Stmt{movStmt, whileStmt(1, 0)}, -1},
		{"a while that fits in Then", []impl.Stmt{ifStmt(1, 2, 1), whileStmt(1, 1), movStmt, movStmt}, -1},
		{"a while over Then into Else", []impl.Stmt{ifStmt(1, 2, 1), whileStmt(1, 2), movStmt, movStmt}, 1},
		{"a while over Then", []impl.Stmt{ifStmt(1, 2, 0), whileStmt(1, 2), movStmt, movStmt}, 1},
		{"a while that fits in Else", []impl.Stmt{ifStmt(1, 1, 2), movStmt, whileStmt(1, 1), movStmt, movStmt}, -1},
		{"a while over Else", []impl.Stmt{ifStmt(1, 1, 2), movStmt, whileStmt(1, 2), movStmt, movStmt}, 2},
		{"an if that fits in a while", []impl.Stmt{whileStmt(1, 3), ifStmt(1, 1, 1), movStmt, movStmt, movStmt}, -1},
		{"an if's Else over a while", []impl.Stmt{whileStmt(1, 3), ifStmt(1, 1, 2), movStmt, movStmt, movStmt}, 1},
		{"an if's Then over a while", []impl.Stmt{whileStmt(1, 3), ifStmt(1, 3, 0), movStmt, movStmt, movStmt}, 1},
		{"behind an inner block that ended", []impl.Stmt{whileStmt(1, 4), ifStmt(1, 1, 0), movStmt, whileStmt(1, 1), movStmt, movStmt}, -1},
		{"over, behind an inner block that ended", []impl.Stmt{whileStmt(1, 4), ifStmt(1, 1, 0), movStmt, whileStmt(1, 2), movStmt, movStmt}, 3},
		{"three that end together", []impl.Stmt{whileStmt(1, 3), ifStmt(1, 0, 2), whileStmt(1, 1), movStmt, movStmt}, -1},
		{"behind two blocks that ended", []impl.Stmt{whileStmt(1, 2), whileStmt(1, 1), movStmt, whileStmt(1, 1), movStmt}, -1},
		{"over the end behind two blocks", []impl.Stmt{whileStmt(1, 2), whileStmt(1, 1), movStmt, whileStmt(1, 2), movStmt}, 3},
	}
	for _, row := range rows {
		want := impl.UnitRes{}
		if row.at >= 0 {
			want = impl.UnitRes{Err: impl.UnitShape, At: row.at}
		}
		wantUnit(t, row.name, unitOf(row.list), want)
		wantRunnable(t, row.name, row.list, row.at < 0)
		want.Proc = 3 * min(want.Err, 1)
		wantUnit(t, row.name, unitOf(nil, nil, nil, row.list), want)
	}
}

func TestUnitDepth(t *testing.T) {
	for _, kind := range []int64{impl.SIf, impl.SWhile} {
		for size := int64(1); size <= 20; size++ {
			want := impl.UnitRes{}
			if size > 16 {
				want = impl.UnitRes{Err: impl.UnitDepth, At: 16}
			}
			wantUnit(t, "nested", unitOf(nested(size, kind)), want)
			want.Proc = min(want.Err, 1)
			wantUnit(t, "nested", unitOf(nil, nested(size, kind)), want)
		}
	}
	inner := func(s ...impl.Stmt) []impl.Stmt {
		list := nested(16, impl.SIf)
		for i := range list {
			list[i].Then += int64(len(s))
		}
		return append(list, s...)
	}
	wantUnit(t, "an instruction of depth 16", unitOf(inner(movStmt)), impl.UnitRes{})
	wantUnit(t, "a call of depth 16", unitOf(inner(callStmt(1)), nested(16, impl.SWhile)), impl.UnitRes{})
	wantUnit(t, "a while of depth 16", unitOf(inner(movStmt, whileStmt(1, 0))), impl.UnitRes{Err: impl.UnitDepth, At: 17})
	// An Else is a block too, and depth ends with a block.
	var list []impl.Stmt
	for left := int64(15); left >= 0; left-- {
		list = append(list, ifStmt(1, 0, left))
	}
	wantUnit(t, "16 in Elses", unitOf(joined(list, list)), impl.UnitRes{})
	list = nil
	for left := int64(16); left >= 0; left-- {
		list = append(list, ifStmt(1, 0, left))
	}
	wantUnit(t, "17 in Elses", unitOf(list), impl.UnitRes{Err: impl.UnitDepth, At: 16})
}

// At one statement the first of the errors in their order is told; a call and a block are never one statement, so that two come together at most.
func TestUnitErrorOrder(t *testing.T) {
	deep := func(s ...impl.Stmt) []impl.Proc {
		list := nested(16, impl.SWhile)
		for i := range list {
			list[i].Then += int64(len(s))
		}
		return unitOf(nil, append(list, s...))
	}
	wantUnit(t, "depth alone", deep(ifStmt(1, 0, 0)), impl.UnitRes{Err: impl.UnitDepth, Proc: 1, At: 16})
	wantUnit(t, "shape and depth", deep(ifStmt(1, 1, 0)), impl.UnitRes{Err: impl.UnitShape, Proc: 1, At: 16})
	wantUnit(t, "field, shape and depth", deep(ifStmt(5, 1, 0)), impl.UnitRes{Err: impl.UnitStmt, Proc: 1, At: 16})
	wantUnit(t, "field and depth", deep(whileStmt(0, 0)), impl.UnitRes{Err: impl.UnitStmt, Proc: 1, At: 16})
	wantUnit(t, "field and shape", unitOf([]impl.Stmt{{Kind: impl.SIf, Cond: 1, Then: 1, Proc: 1}}), impl.UnitRes{Err: impl.UnitStmt})
	wantUnit(t, "field and recursion", unitOf(nil, []impl.Stmt{{Kind: impl.SCall, Cond: 1}}), impl.UnitRes{Err: impl.UnitStmt, Proc: 1})
	wantUnit(t, "a call with a block that is too long, and of itself", unitOf([]impl.Stmt{{Kind: impl.SCall, Then: 5}}), impl.UnitRes{Err: impl.UnitStmt})
}

// Of two wrong statements the first decides, whatever their errors and wherever they stand.
func TestUnitFirstStatement(t *testing.T) {
	wrong := []struct {
		s   impl.Stmt
		err int64
	}{
		{impl.Stmt{}, impl.UnitStmt},
		{callStmt(2), impl.UnitStmt},
		{ifStmt(1, 400, 0), impl.UnitShape},
		{whileStmt(1, 400), impl.UnitShape},
		{callStmt(1), impl.UnitRecursive},
		{callStmt(0), impl.UnitRecursive},
	}
	for _, a := range wrong {
		for _, b := range wrong {
			wantUnit(t, "side by side", unitOf(nil, []impl.Stmt{movStmt, a.s, b.s}), impl.UnitRes{Err: a.err, Proc: 1, At: 1})
			wantUnit(t, "the second behind the first's block", unitOf(nil, []impl.Stmt{movStmt, ifStmt(1, 2, 1), movStmt, a.s, b.s}), impl.UnitRes{Err: a.err, Proc: 1, At: 3})
			wantUnit(t, "the first in an Else", unitOf(nil, []impl.Stmt{ifStmt(1, 1, 1), movStmt, a.s, b.s}), impl.UnitRes{Err: a.err, Proc: 1, At: 2})
			wantUnit(t, "Then and Else", unitOf(nil, []impl.Stmt{ifStmt(1, 1, 1), a.s, b.s}), impl.UnitRes{Err: a.err, Proc: 1, At: 1})
		}
		deep := append(nested(18, impl.SWhile), a.s)
		wantUnit(t, "behind one that is too deep", unitOf(nil, deep), impl.UnitRes{Err: impl.UnitDepth, Proc: 1, At: 16})
		wantUnit(t, "ahead of one that is too deep", unitOf(nil, joined([]impl.Stmt{a.s}, nested(18, impl.SWhile))), impl.UnitRes{Err: a.err, Proc: 1})
	}
}

func TestUnitFlat(t *testing.T) {
	flat := impl.UnitRes{Err: impl.UnitFlat}
	mov := func(size int) []impl.Stmt { return times(size, movStmt) }
	rows := []struct {
		name  string
		procs []impl.Proc
		want  impl.UnitRes
	}{
		{"1999 instructions and the halt", unitOf(append(times(3, callStmt(1)), callStmt(2)), mov(500), mov(499)), impl.UnitRes{}},
		{"2000 and the halt", unitOf(times(4, callStmt(1)), mov(500)), flat},
		{"2001 and the halt", unitOf(joined(times(4, callStmt(1)), mov(1)), mov(500)), flat},
		{"ifs of 1998, and one", unitOf(append(times(2, callStmt(1)), movStmt), joined(times(499, ifStmt(1, 0, 0)), mov(1))), impl.UnitRes{}},
		{"ifs of 2000", unitOf(times(2, callStmt(1)), times(500, ifStmt(1, 0, 0))), flat},
		{"whiles of 1998, and one", unitOf(append(times(2, callStmt(1)), movStmt), joined(times(499, whileStmt(1, 0)), mov(1))), impl.UnitRes{}},
		{"whiles of 2000", unitOf(times(2, callStmt(1)), times(500, whileStmt(1, 0))), flat},
		{"whiles whose blocks call, 1999", unitOf(joined(times(3, whileStmt(1, 1), callStmt(1)), mov(493)), mov(500)), impl.UnitRes{}},
		{"calls in both blocks, 1999", unitOf([]impl.Stmt{ifStmt(1, 2, 1), callStmt(1), callStmt(1), callStmt(1), callStmt(2)}, mov(500), mov(497)), impl.UnitRes{}},
		{"calls in both blocks, 2000", unitOf([]impl.Stmt{ifStmt(1, 2, 1), callStmt(1), callStmt(1), callStmt(1), callStmt(2)}, mov(500), mov(498)), flat},
		{"what is not called is not counted", unitOf(mov(1), times(500, callStmt(2)), mov(500)), impl.UnitRes{}},
		{"calls of calls, 1999", unitOf(append(times(3, callStmt(1)), callStmt(2)), append(times(4, callStmt(3)), mov(2)...), mov(493), mov(125)), impl.UnitRes{}},
		{"calls of calls, 2000", unitOf(append(times(3, callStmt(1)), callStmt(2)), append(times(4, callStmt(3)), mov(2)...), mov(494), mov(125)), flat},
	}
	for _, row := range rows {
		wantUnit(t, row.name, row.procs, row.want)
		if row.want.Err == impl.UnitOk {
			in := impl.Inline(row.procs)
			wantRunnable(t, row.name, in, true)
			if !slices.Equal(in, slowInline(row.procs, 0)) {
				t.Errorf("%s: %d statements inlined", row.name, len(in))
			}
		} else if len(impl.Inline(row.procs)) != 0 {
			t.Errorf("%s: inlined", row.name)
		}
	}
}

// tower is 20 procedures of which each but the last calls the next so many times.
func tower(calls int, last []impl.Stmt) []impl.Proc {
	procs := make([]impl.Proc, 20)
	for i := range procs[:19] {
		procs[i].Body = times(calls, callStmt(int64(i)+1))
	}
	procs[19].Body = last
	return procs
}

// 500^19 calls, and sums that come to 0 where numbers wrap: they are counted without being made.
func TestUnitTowers(t *testing.T) {
	wantUnit(t, "a tower", tower(500, []impl.Stmt{movStmt}), impl.UnitRes{Err: impl.UnitFlat})
	wantUnit(t, "a tower of 256^19", tower(256, []impl.Stmt{movStmt}), impl.UnitRes{Err: impl.UnitFlat})
	wantUnit(t, "a tower of 2^19", tower(2, []impl.Stmt{movStmt}), impl.UnitRes{Err: impl.UnitFlat})
	wantUnit(t, "a tower of one each", tower(1, times(500, movStmt)), impl.UnitRes{})
	empty := tower(500, nil)
	wantUnit(t, "an empty tower", empty, impl.UnitRes{})
	if got := impl.Inline(empty); len(got) != 0 {
		t.Errorf("an empty tower inlined: %d statements", len(got))
	}
	apart := tower(500, []impl.Stmt{movStmt})
	apart[0].Body = []impl.Stmt{movStmt, callStmt(19)}
	wantUnit(t, "a tower that isn't called", apart, impl.UnitRes{})
	if got := impl.Inline(apart); !slices.Equal(got, times(2, movStmt)) {
		t.Errorf("a tower that isn't called: %v", got)
	}
	late := tower(500, []impl.Stmt{movStmt, {}})
	wantUnit(t, "a tower with a wrong statement", late, impl.UnitRes{Err: impl.UnitStmt, Proc: 19, At: 1})
}

// wearStmt changes one field of one statement.
func wearStmt(random *rand.Rand, procs []impl.Proc) {
	p := random.Intn(len(procs))
	if len(procs[p].Body) == 0 {
		return
	}
	s := &procs[p].Body[random.Intn(len(procs[p].Body))]
	values := []int64{-1, 0, 1, 2, 3, 4, 5, 28, 29, 34, math.MaxInt64, math.MinInt64}
	v := values[random.Intn(len(values))]
	if random.Intn(8) == 0 {
		s.Kind = v
		return
	}
	fields := fieldsOfStmt()
	for {
		field := fields[random.Intn(len(fields))]
		if slices.Contains(field.kinds, s.Kind) || random.Intn(5) == 0 {
			if random.Intn(2) == 0 && s.Cond != 0 {
				s.Then, s.Else = max(0, s.Then+random.Int63n(3)-1), max(0, s.Else+random.Int63n(3)-1)
			} else {
				field.set(s, v)
			}
			return
		}
	}
}

func TestUnitAgainstSlowCheck(t *testing.T) {
	random := rand.New(rand.NewSource(5))
	counts := map[int64]int{}
	for range 20000 {
		procs := randomUnit(random, 1+random.Int63n(5))
		for range random.Intn(3) {
			wearStmt(random, procs)
		}
		want := slowCheck(procs)
		counts[want.Err]++
		if got := impl.CheckUnit(procs); got != want {
			t.Fatalf("%+v: %+v, not %+v", procs, got, want)
		}
		in := impl.Inline(procs)
		if want.Err != impl.UnitOk && len(in) != 0 {
			t.Fatalf("%+v: inlined in spite of an error", procs)
		}
	}
	for _, err := range []int64{impl.UnitOk, impl.UnitStmt, impl.UnitShape, impl.UnitRecursive} {
		if counts[err] < 30 {
			t.Errorf("error %d came %d times", err, counts[err])
		}
	}
}

func TestUnitKeepsItsArgument(t *testing.T) {
	random := rand.New(rand.NewSource(6))
	for range 1000 {
		procs := randomUnit(random, 1+random.Int63n(5))
		if random.Intn(2) == 0 {
			wearStmt(random, procs)
		}
		old := cloneUnit(procs)
		impl.CheckUnit(procs)
		first, second := impl.Inline(procs), impl.Inline(procs)
		want := slices.Clone(second)
		fill(first, impl.Stmt{Kind: 77})
		if !sameUnit(procs, old) || !slices.Equal(second, want) {
			t.Fatalf("changed: %+v, was %+v", procs, old)
		}
		if again := impl.Inline(procs); !slices.Equal(again, want) {
			t.Fatalf("another answer: %+v, not %+v", again, want)
		}
	}
}

// cloneUnit keeps what stands behind a body's end too.
func cloneUnit(procs []impl.Proc) []impl.Proc {
	procs = slices.Clone(procs)
	for i, p := range procs {
		procs[i].Body = slices.Clone(p.Body[:cap(p.Body)])
	}
	return procs
}

func sameUnit(a, b []impl.Proc) bool {
	return slices.EqualFunc(a, b, func(p, q impl.Proc) bool { return slices.Equal(p.Body[:cap(p.Body)], q.Body) })
}
