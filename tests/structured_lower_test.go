package tests

import (
	"math/rand"
	"slices"
	"testing"

	"loop.example/s01319/impl"
)

func wantInline(t *testing.T, name string, procs []impl.Proc, want []impl.Stmt) {
	t.Helper()
	if got := impl.Inline(procs); !slices.Equal(got, want) {
		t.Errorf("%s:\n got %+v\nwant %+v", name, got, want)
	}
}

func TestInline(t *testing.T) {
	one, two := moviStmt(1, 1), moviStmt(2, 2)
	small := []impl.Stmt{one, two}
	looped := []impl.Stmt{one, whileStmt(2, 1), two}
	rows := []struct {
		name  string
		procs []impl.Proc
		want  []impl.Stmt
	}{
		{"nothing", unitOf(nil), nil},
		{"no call", unitOf(looped), looped},
		{"a call alone", unitOf([]impl.Stmt{callStmt(1)}, looped), looped},
		{"a call of an empty procedure", unitOf([]impl.Stmt{one, callStmt(1), two}, nil), small},
		{"only calls of an empty procedure", unitOf(times(500, callStmt(1)), nil), nil},
		{"the same procedure twice", unitOf(times(2, callStmt(1)), looped), joined(looped, looped)},
		{"calls in there too", unitOf([]impl.Stmt{callStmt(1), movStmt}, []impl.Stmt{callStmt(2), one, callStmt(2)}, small), joined(small, []impl.Stmt{one}, small, []impl.Stmt{movStmt})},
		{"a call past a procedure", unitOf([]impl.Stmt{callStmt(2), callStmt(1)}, []impl.Stmt{one}, []impl.Stmt{two}), []impl.Stmt{two, one}},
		{
			"calls in both blocks",
			unitOf([]impl.Stmt{ifStmt(1, 2, 1), callStmt(1), movStmt, callStmt(2), movStmt}, looped, small),
			joined([]impl.Stmt{ifStmt(1, 4, 2)}, looped, times(1, movStmt), small, times(1, movStmt)),
		},
		{
			"an empty call in each block",
			unitOf([]impl.Stmt{ifStmt(3, 1, 1), callStmt(1), callStmt(1), whileStmt(4, 1), callStmt(1)}, nil),
			[]impl.Stmt{ifStmt(3, 0, 0), whileStmt(4, 0)},
		},
		{
			"a call in a block of a block",
			unitOf([]impl.Stmt{whileStmt(2, 4), ifStmt(3, 1, 1), callStmt(1), movStmt, callStmt(1), movStmt}, small),
			joined([]impl.Stmt{whileStmt(2, 6), ifStmt(3, 2, 1)}, small, times(1, movStmt), small, times(1, movStmt)),
		},
		{
			"blocks of procedures inside one another",
			unitOf([]impl.Stmt{whileStmt(1, 1), callStmt(1)}, []impl.Stmt{ifStmt(2, 1, 2), callStmt(2), callStmt(2), callStmt(2)}, []impl.Stmt{whileStmt(3, 1), one}),
			[]impl.Stmt{whileStmt(1, 7), ifStmt(2, 2, 4), whileStmt(3, 1), one, whileStmt(3, 1), one, whileStmt(3, 1), one},
		},
	}
	for _, row := range rows {
		wantInline(t, row.name, row.procs, row.want)
	}
}

func TestInlineOfErrors(t *testing.T) {
	for i, procs := range [][]impl.Proc{
		nil, make([]impl.Proc, 21), unitOf(times(501, movStmt)), unitOf([]impl.Stmt{movStmt, {}}), unitOf([]impl.Stmt{ifStmt(1, 1, 0)}),
		unitOf(nested(17, impl.SIf)), unitOf([]impl.Stmt{movStmt, callStmt(0)}), unitOf(times(1, movStmt), []impl.Stmt{{}}), unitOf(times(4, callStmt(1)), times(500, movStmt)),
	} {
		if got := impl.Inline(procs); len(got) != 0 {
			t.Errorf("unit %d: %v", i, got)
		}
	}
}

// The deepest unit there is: each procedure calls the next from its innermost block.
func TestInlineDeepest(t *testing.T) {
	var procs []impl.Proc
	for i := int64(1); i <= 20; i++ {
		list := nested(16, impl.SIf+i%2)
		if i < 20 {
			for at := range list {
				list[at].Then++
			}
			list = append(list, callStmt(i))
		}
		procs = append(procs, impl.Proc{Body: list})
	}
	wantUnit(t, "20 procedures of depth 16", procs, impl.UnitRes{})
	in := impl.Inline(procs)
	for i, s := range in {
		if s.Then != int64(319-i) || s.Else != 0 {
			t.Fatalf("statement %d: %+v", i, s)
		}
	}
	wantRunnable(t, "20 procedures of depth 16", in, len(in) == 320)
}

func TestInlineAgainstSlowInline(t *testing.T) {
	random := rand.New(rand.NewSource(7))
	done := 0
	for range 4000 {
		procs := randomUnit(random, 1+random.Int63n(5))
		if slowCheck(procs).Err != impl.UnitOk {
			continue
		}
		done++
		want := slowInline(procs, 0)
		got := impl.Inline(procs)
		if !slices.Equal(got, want) {
			t.Fatalf("%+v:\n got %+v\nwant %+v", procs, got, want)
		}
		if flat := impl.Lower(got); !impl.ValidFlat(flat) || int64(len(flat)) != slowSizes(procs)[0].Int64()+1 {
			t.Fatalf("%+v: the flat program is not valid", procs)
		}
	}
	if done < 2000 {
		t.Errorf("only %d units without an error", done)
	}
}

func wantLower(t *testing.T, name string, stmts []impl.Stmt, want []impl.Ins) {
	t.Helper()
	got := impl.Lower(stmts)
	if !slices.Equal(got, want) {
		t.Errorf("%s:\n got %v\nwant %v", name, got, want)
	}
	if len(want) > 0 && !impl.ValidFlat(got) {
		t.Errorf("%s: not a valid program", name)
	}
}

func TestLower(t *testing.T) {
	a, b := moviStmt(1, 1), moviStmt(2, 2)
	jmp := func(to int64) impl.Ins { return impl.Ins{Op: impl.OpJmp, Imm: to} }
	jnz := func(to int64) impl.Ins { return impl.Ins{Op: impl.OpJnz, Imm: to} }
	jz := func(to int64) impl.Ins { return impl.Ins{Op: impl.OpJz, Imm: to} }
	rows := []struct {
		name  string
		stmts []impl.Stmt
		want  []impl.Ins
	}{
		{"nothing", nil, []impl.Ins{halt}},
		{"instructions", []impl.Stmt{a, b}, []impl.Ins{a.Ins, b.Ins, halt}},
		{"an if of nothing", []impl.Stmt{ifStmt(1, 0, 0)}, []impl.Ins{jnz(2), jmp(2), halt}},
		{"an if without Else", []impl.Stmt{ifStmt(1, 1, 0), a, b}, []impl.Ins{jnz(3), a.Ins, jmp(3), b.Ins, halt}},
		{"an if with both", []impl.Stmt{ifStmt(1, 1, 1), a, b, a}, []impl.Ins{jnz(3), a.Ins, jmp(4), b.Ins, a.Ins, halt}},
		{"an if without Then", []impl.Stmt{b, ifStmt(1, 0, 1), a, b}, []impl.Ins{b.Ins, jnz(3), jmp(4), a.Ins, b.Ins, halt}},
		{"a while of nothing", []impl.Stmt{whileStmt(1, 0)}, []impl.Ins{jnz(2), jmp(0), halt}},
		{"a while", []impl.Stmt{a, whileStmt(2, 2), b, a, b}, []impl.Ins{a.Ins, jz(5), b.Ins, a.Ins, jmp(1), b.Ins, halt}},
		{
			"a while in an if", []impl.Stmt{ifStmt(1, 2, 2), whileStmt(2, 1), a, whileStmt(2, 1), b},
			[]impl.Ins{jnz(5), jz(4), a.Ins, jmp(1), jmp(8), jz(8), b.Ins, jmp(5), halt},
		},
		{
			"an if in a while", []impl.Stmt{whileStmt(2, 4), a, ifStmt(1, 1, 1), a, b, b},
			[]impl.Ins{jz(7), a.Ins, jnz(5), a.Ins, jmp(6), b.Ins, jmp(0), b.Ins, halt},
		},
		{
			"a while in a while", []impl.Stmt{whileStmt(2, 1), whileStmt(1, 0)},
			[]impl.Ins{jz(4), jnz(3), jmp(1), jmp(0), halt},
		},
		{
			"an if in an Else in an Else", []impl.Stmt{ifStmt(1, 0, 3), ifStmt(2, 0, 2), ifStmt(1, 0, 1), a},
			[]impl.Ins{jnz(2), jmp(7), jz(4), jmp(7), jnz(6), jmp(7), a.Ins, halt},
		},
		{
			"one behind another", []impl.Stmt{whileStmt(1, 1), a, ifStmt(2, 1, 0), b, whileStmt(1, 0)},
			[]impl.Ins{jnz(3), a.Ins, jmp(0), jz(6), b.Ins, jmp(6), jnz(8), jmp(6), halt},
		},
	}
	for _, row := range rows {
		wantLower(t, row.name, row.stmts, row.want)
		if !slices.Equal(slowLower(row.stmts), row.want) {
			t.Errorf("%s: counted as %v", row.name, slowLower(row.stmts))
		}
	}
}

func TestLowerConds(t *testing.T) {
	for cond, op := range map[int64]int64{impl.CondZ: impl.OpJnz, impl.CondNz: impl.OpJz, impl.CondC: impl.OpJnc, impl.CondNc: impl.OpJc} {
		wantLower(t, "an if", []impl.Stmt{ifStmt(cond, 1, 0), movStmt}, []impl.Ins{{Op: op, Imm: 3}, movStmt.Ins, {Op: impl.OpJmp, Imm: 3}, halt})
		wantLower(t, "a while", []impl.Stmt{whileStmt(cond, 1), movStmt}, []impl.Ins{{Op: op, Imm: 3}, movStmt.Ins, {Op: impl.OpJmp}, halt})
	}
}

func TestRunnable(t *testing.T) {
	wantRunnable(t, "nil", nil, true)
	wantRunnable(t, "1999 instructions", times(1999, movStmt), true)
	wantRunnable(t, "2000 instructions", times(2000, movStmt), false)
	wantRunnable(t, "2001 instructions", times(2001, movStmt), false)
	wantRunnable(t, "a million instructions", times(1000000, movStmt), false)
	for _, s := range []impl.Stmt{ifStmt(1, 0, 0), whileStmt(1, 0)} {
		wantRunnable(t, "999 blocks and an instruction", append(times(999, s), movStmt), true)
		wantRunnable(t, "999 blocks and two", append(times(999, s), movStmt, movStmt), false)
		wantRunnable(t, "1000 blocks", times(1000, s), false)
		wantRunnable(t, "2000 blocks", times(2000, s), false)
		inside := append([]impl.Stmt{s}, times(1997, movStmt)...)
		inside[0].Then = 1997
		wantRunnable(t, "1997 in a block", inside, true)
		inside = append(inside, movStmt)
		wantRunnable(t, "one more behind it", inside, false)
		inside[0].Then++
		wantRunnable(t, "one more in it", inside, false)
	}
	both := append([]impl.Stmt{ifStmt(1, 7, 1990)}, times(1997, movStmt)...)
	wantRunnable(t, "1997 in two blocks", both, true)
	both[0].Else++
	wantRunnable(t, "1998 in two blocks", append(both, movStmt), false)
	wantRunnable(t, "a block over the end", both, false)
	for proc := int64(-1); proc < 3; proc++ {
		wantRunnable(t, "a call", []impl.Stmt{callStmt(proc)}, false)
		wantRunnable(t, "a call in a block", []impl.Stmt{movStmt, whileStmt(1, 1), callStmt(proc)}, false)
	}
	wantRunnable(t, "a last statement that is wrong", append(times(1998, movStmt), impl.Stmt{}), false)
}

func TestRunnableDepth(t *testing.T) {
	for _, kind := range []int64{impl.SIf, impl.SWhile} {
		wantRunnable(t, "depth 16", nested(17, kind), true)
		wantRunnable(t, "depth 319", nested(320, kind), true)
		wantRunnable(t, "depth 320", nested(321, kind), true)
		wantRunnable(t, "depth 321", nested(322, kind), false)
		wantRunnable(t, "depth 998", nested(999, kind), false)
		wantRunnable(t, "depth 1999", nested(2000, kind), false)
		inner := nested(321, kind)
		for i := range inner {
			inner[i].Then++
		}
		wantRunnable(t, "an instruction of depth 321", append(inner, movStmt), true)
	}
	var list []impl.Stmt
	for left := int64(320); left >= 0; left-- {
		list = append(list, ifStmt(1, 0, left))
	}
	wantRunnable(t, "depth 320 in Elses", joined(list, list), true)
	list = nil
	for left := int64(321); left >= 0; left-- {
		list = append(list, ifStmt(1, 0, left))
	}
	wantRunnable(t, "depth 321 in Elses", list, false)
}

func TestLowerAgainstSlowLower(t *testing.T) {
	random := rand.New(rand.NewSource(8))
	for i := range 6000 {
		list := randomStmts(random, random.Intn(10+i/100), 5, 0, 0)
		wantLower(t, "a random list", list, slowLower(list))
	}
	// Worn lists: runnable is what a second look finds so.
	for range 6000 {
		procs := unitOf(randomStmts(random, random.Intn(12), 3, 0, 0))
		wearStmt(random, procs)
		err, _ := slowError(procs[0].Body, 0, 0, 320)
		wantRunnable(t, "a worn list", procs[0].Body, err == impl.UnitOk)
	}
}

func TestLowerKeepsItsArgument(t *testing.T) {
	random := rand.New(rand.NewSource(9))
	for range 1000 {
		list := append(make([]impl.Stmt, 0, 60), randomStmts(random, 10, 3, 0, 0)...)
		old := slices.Clone(list[:cap(list)])
		first, second := impl.Lower(list), impl.Lower(list)
		want := slices.Clone(second)
		fill(first, impl.Ins{Op: 77})
		if !slices.Equal(list[:cap(list)], old) || !slices.Equal(second, want) || !slices.Equal(impl.Lower(list), want) {
			t.Fatalf("changed: %+v", list)
		}
	}
}
