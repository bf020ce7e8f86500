package tests

import (
	"math/rand"
	"slices"
	"testing"

	"loop.example/s01319/impl"
)

// mixedSig has pointers in r0, r1 and r6, public numbers in r2, r4 and r7 and secret ones in r3 and r5.
func mixedSig() impl.Sig {
	return sigWith(ptr(0, 0, 0), ptr(1, 0, 0), num(7), hidden(255), num(-1), hidden(-1), ptr(2, 0, 0), num(3))
}

func andiStmt(r, imm int64) impl.Stmt {
	return doStmt(impl.Ins{Op: impl.OpAndi, D: r, A: r, Imm: imm})
}

func movOf(d, a int64) impl.Stmt { return doStmt(impl.Ins{Op: impl.OpMov, D: d, A: a}) }

func loadOf(d, a, imm, h int64) impl.Stmt {
	return doStmt(impl.Ins{Op: impl.OpLdb, D: d, A: a, Imm: imm, H: h})
}

// public is a comparison of a public register, hiding one of a secret.
var public, hiding = cmpiStmt(7, 0), cmpiStmt(3, 0)

func list(stmts ...impl.Stmt) []impl.Stmt { return stmts }

// loopOf is a while with its body.
func loopOf(cond int64, body ...impl.Stmt) []impl.Stmt {
	return append(list(whileStmt(cond, int64(len(body)))), body...)
}

func choiceOf(cond int64, then, other []impl.Stmt) []impl.Stmt {
	return joined(list(ifStmt(cond, int64(len(then)), int64(len(other)))), then, other)
}

func TestCheckerConstants(t *testing.T) {
	if impl.RoundMax != 20 || impl.RoundsAll != 1000 {
		t.Errorf("%d, %d", impl.RoundMax, impl.RoundsAll)
	}
}

func TestCheckArguments(t *testing.T) {
	sig := mixedSig()
	wantThrough(t, "nothing", sig, nil, 0, 0)
	wantThrough(t, "an empty list", sig, list(), 0, 0)
	wrong := mixedSig()
	wrong.Heaps[2].Size = 0
	wantFlaw(t, "a sig that is not valid", wrong, list(public), impl.CkNoSig, 0)
	wantFlaw(t, "a sig that is not valid and a call", wrong, list(public, callStmt(0)), impl.CkNoSig, 0)
	wantFlaw(t, "no sig", impl.Sig{}, nil, impl.CkNoSig, 0)
	rows := [][]impl.Stmt{
		list(callStmt(0)), list(public, callStmt(0)), list(public, callStmt(1)), list(impl.Stmt{}), list(public, impl.Stmt{Kind: 5}),
		list(public, ifStmt(1, 1, 0)), list(public, ifStmt(1, 0, 1)), list(public, whileStmt(1, 1)), list(public, ifStmt(1, -1, 0)), list(public, whileStmt(0, 0)), list(public, whileStmt(5, 0)),
		list(doStmt(halt)), list(doStmt(impl.Ins{Op: impl.OpJmp})), list(doStmt(impl.Ins{Op: impl.OpMov, D: 8})), list(doStmt(impl.Ins{Op: impl.OpMov, B: 1})),
		times(2000, movStmt), times(2001, movStmt), times(1000, ifStmt(1, 0, 0)), joined(list(public), nested(322, impl.SIf)),
	}
	for i, stmts := range rows {
		got := impl.Check(sig, stmts)
		if !sameCheck(got, impl.CheckRes{Err: impl.CkNoStmts}) {
			t.Errorf("row %d: %+v", i, got)
		}
	}
	// What is not runnable is told ahead of what is wrong in it.
	wantFlaw(t, "a call behind a flaw", sig, list(loadOf(0, 2, 0, 0), callStmt(0)), impl.CkNoStmts, 0)
	wantThrough(t, "1999 statements", sig, times(1999, movStmt), 0, 0)
	wantThrough(t, "321 ifs inside one another", sig, joined(list(public), nested(321, impl.SIf)), 1, 1)
	wantThrough(t, "321 whiles inside one another", sig, joined(list(public), nested(321, impl.SWhile)), 1, 1)
}

// errorRows are statements with one thing wrong each, behind a comparison of a public register.
func errorRows() []struct {
	err   int64
	stmts []impl.Stmt
} {
	return []struct {
		err   int64
		stmts []impl.Stmt
	}{
		{impl.CkSecretFlag, list(hiding, ifStmt(1, 0, 0))},
		{impl.CkSecretFlag, list(hiding, whileStmt(3, 0))},
		{impl.CkNotPtr, list(loadOf(4, 2, 0, 0))},
		{impl.CkHeap, list(loadOf(4, 1, 0, 0))},
		{impl.CkIndex, list(doStmt(impl.Ins{Op: impl.OpLdbx, D: 4, A: 1, B: 3, H: 1}))},
		{impl.CkBounds, list(loadOf(4, 0, 16, 0))},
		{impl.CkReadOnly, list(doStmt(impl.Ins{Op: impl.OpStb, D: 2, A: 0}))},
		{impl.CkSecretStore, list(doStmt(impl.Ins{Op: impl.OpStb, D: 3, A: 6, H: 2}))},
		{impl.CkTiming, list(doStmt(impl.Ins{Op: impl.OpDiv, D: 3, A: 3, B: 2}))},
		{impl.CkFix, joined(loopOf(2, addiStmt(2, 1)))},
	}
}

// Each Err with its place: at the front, behind others, in each block, and in blocks of blocks.
func TestCheckPlaces(t *testing.T) {
	sig := mixedSig()
	for _, row := range errorRows() {
		own := int64(len(row.stmts)) - 1
		if row.err == impl.CkFix {
			own = 0
		}
		wantFlaw(t, "alone", sig, joined(list(public), row.stmts), row.err, 1+own)
		wantFlaw(t, "behind others", sig, joined(times(7, public), row.stmts, times(3, public)), row.err, 7+own)
		then := choiceOf(1, joined(list(movOf(2, 2)), row.stmts), list(movStmt))
		wantFlaw(t, "in Then", sig, joined(list(public), then), row.err, 3+own)
		other := choiceOf(2, list(movStmt, movStmt), joined(list(movOf(2, 2)), row.stmts))
		wantFlaw(t, "in Else", sig, joined(list(public), other, times(2, public)), row.err, 5+own)
		both := choiceOf(3, row.stmts, list(loadOf(4, 2, 0, 0)))
		wantFlaw(t, "in both", sig, joined(list(public), both), row.err, 2+own)
		late := choiceOf(4, list(movStmt), row.stmts)
		wantFlaw(t, "in Else, and one behind it", sig, joined(list(public), late, list(loadOf(4, 2, 0, 0))), row.err, 3+own)
		body := loopOf(1, joined(list(movStmt), row.stmts, list(public))...)
		wantFlaw(t, "in a while", sig, joined(list(public), body), row.err, 3+own)
		deep := choiceOf(1, list(movStmt), joined(list(public), loopOf(4, choiceOf(2, list(movStmt), body)...)))
		wantFlaw(t, "in a while in an Else in a while in an Else", sig, joined(list(public, movStmt), deep), row.err, 10+own)
		wantFlaw(t, "behind a block", sig, joined(list(public), choiceOf(1, list(movStmt), list(movStmt)), loopOf(2, movStmt), row.stmts), row.err, 6+own)
	}
	for cond := int64(1); cond <= 4; cond++ {
		wantFlaw(t, "no flag", sig, list(movStmt, ifStmt(cond, 1, 1), loadOf(4, 2, 0, 0), loadOf(4, 2, 0, 0)), impl.CkFlag, 1)
		wantFlaw(t, "no flag", sig, list(movStmt, movStmt, whileStmt(cond, 1), loadOf(4, 2, 0, 0)), impl.CkFlag, 2)
		wantFlaw(t, "a secret flag", sig, list(hiding, ifStmt(cond, 1, 1), loadOf(4, 2, 0, 0), loadOf(4, 2, 0, 0)), impl.CkSecretFlag, 1)
		wantFlaw(t, "a secret flag", sig, list(movStmt, hiding, whileStmt(cond, 1), loadOf(4, 2, 0, 0)), impl.CkSecretFlag, 2)
		wantThrough(t, "a public flag", sig, list(hiding, public, ifStmt(cond, 0, 0), whileStmt(cond, 0)), 1, 1)
	}
	wantFlaw(t, "no carry", sig, list(movStmt, doStmt(impl.Ins{Op: impl.OpAdc, D: 4, A: 2, B: 2})), impl.CkFlag, 1)
	wantFlaw(t, "no flag for a select", sig, list(doStmt(impl.Ins{Op: impl.OpSelz, D: 4, A: 2, B: 2})), impl.CkFlag, 0)
}

func TestCheckJoins(t *testing.T) {
	sig := mixedSig()
	pick := func(then, other []impl.Stmt) []impl.Stmt {
		return joined(list(public), choiceOf(impl.CondNc, then, other))
	}
	wantThrough(t, "two numbers", sig, pick(list(moviStmt(0, 5)), list(moviStmt(0, 9))), 1, 1, num(9))
	wantThrough(t, "two numbers", sig, pick(list(moviStmt(0, 9)), list(moviStmt(0, 5))), 1, 1, num(9))
	wantThrough(t, "a secret one", sig, pick(list(moviStmt(0, 5)), list(movOf(0, 3))), 1, 1, hidden(255))
	wantThrough(t, "a pointer", sig, pick(list(addiStmt(0, 4)), list(addiStmt(0, 9))), 1, 1, ptr(0, 4, 9))
	wantThrough(t, "two pointers", sig, pick(list(movOf(0, 1)), list(movOf(0, 6))), 1, 1, num(-1))
	wantThrough(t, "without Else", sig, pick(list(addiStmt(0, 4)), nil), 1, 1, ptr(0, 0, 4))
	wantThrough(t, "without Then", sig, pick(nil, list(addiStmt(0, 4))), 1, 1, ptr(0, 0, 4))
	wantThrough(t, "without both", sig, pick(nil, nil), 1, 1)
	wantThrough(t, "a secret flag in Then", sig, pick(list(hiding), nil), 2, 2)
	wantThrough(t, "a secret flag in Else", sig, pick(nil, list(hiding)), 2, 2)
	wantThrough(t, "a secret flag in both", sig, pick(list(hiding), list(hiding)), 2, 2)
	wantThrough(t, "a public flag in both", sig, pick(list(cmpiStmt(2, 0)), list(public)), 1, 1)
	wantThrough(t, "a secret flag that is forgotten", sig, pick(list(hiding, public), nil), 1, 1)
	// Each block begins with what is known ahead of the if, not behind the other one.
	wantThrough(t, "Else from ahead", sig, pick(list(moviStmt(0, 5)), list(loadOf(2, 0, 3, 0))), 1, 1, num(-1), ptr(1, 0, 0), num(255))
	wantFlaw(t, "a pointer that is lost", sig, joined(pick(list(movOf(4, 0)), list(movOf(4, 1))), list(loadOf(4, 4, 0, 0))), impl.CkNotPtr, 4)
	wantThrough(t, "a pointer that is kept", sig, joined(pick(list(movOf(4, 0)), list(movOf(4, 0))), list(loadOf(2, 4, 0, 0))), 1, 1, ptr(0, 0, 0), ptr(1, 0, 0), num(255), hidden(255), ptr(0, 0, 0))
	// A branch by a secret flag behind a join.
	wantFlaw(t, "a secret flag behind an if", sig, joined(pick(list(hiding), nil), list(ifStmt(1, 0, 0))), impl.CkSecretFlag, 3)
}

// growing is a loop that is done in round last-first+1, if first is not above last: r2 grows by 1 up to last.
func growing(first, last int64) []impl.Stmt {
	return joined(list(moviStmt(2, first), public), loopOf(impl.CondZ, addiStmt(2, 1), andiStmt(2, last)))
}

func TestCheckRounds(t *testing.T) {
	sig := mixedSig()
	for rounds := int64(1); rounds <= 20; rounds++ {
		for _, first := range []int64{0, 5, 1000} {
			last := first + rounds - 1
			wantThrough(t, "a loop", sig, growing(first, last), 1, 1, ptr(0, 0, 0), ptr(1, 0, 0), num(last))
		}
	}
	for _, rounds := range []int64{21, 22, 30, 1000} {
		wantFlaw(t, "too many rounds", sig, growing(0, rounds-1), impl.CkFix, 2)
	}
	wantThrough(t, "an empty body", sig, joined(list(public), loopOf(1)), 1, 1)
	wantThrough(t, "a head that is smaller", sig, joined(list(public), loopOf(1, moviStmt(2, 3))), 1, 1)
	wantThrough(t, "behind it holds the head, not the body's end", sig, joined(list(public), loopOf(1, moviStmt(2, 9), moviStmt(4, 4), cmpiStmt(2, 4))), 1, 1, ptr(0, 0, 0), ptr(1, 0, 0), num(9))
	wantThrough(t, "a pointer that goes on and back", sig, joined(list(public), loopOf(1, addiStmt(0, 4), addiStmt(0, -4), movOf(2, 7))), 1, 1)
	wantThrough(t, "a pointer that is set", sig, joined(list(public), loopOf(1, movOf(6, 0), addiStmt(6, 3), loadOf(4, 6, 12, 0))), 1, 1,
		ptr(0, 0, 0), ptr(1, 0, 0), num(7), hidden(255), num(-1), hidden(-1), num(-1))
	wantFlaw(t, "a pointer that goes on", sig, joined(list(public), loopOf(1, addiStmt(0, 4))), impl.CkFix, 1)
	wantFlaw(t, "a pointer that goes back", sig, joined(list(public), loopOf(1, addiStmt(0, -4))), impl.CkFix, 1)
}

// A head may grow until nothing is known; then it is done.
func TestCheckGrowsToAny(t *testing.T) {
	sig := mixedSig()
	square := doStmt(impl.Ins{Op: impl.OpMul, D: 2, A: 2, B: 2})
	wantThrough(t, "squares", sig, joined(list(moviStmt(2, 2), public), loopOf(2, square)), 1, 1, ptr(0, 0, 0), ptr(1, 0, 0), num(-1))
	double := doStmt(impl.Ins{Op: impl.OpAdd, D: 2, A: 2, B: 2})
	shift := func(first, by int64) []impl.Stmt {
		return joined(list(moviStmt(2, first), public), loopOf(2, doStmt(impl.Ins{Op: impl.OpShl, D: 2, A: 2, Imm: by})))
	}
	wantFlaw(t, "doubles", sig, joined(list(moviStmt(2, 1), public), loopOf(2, double)), impl.CkFix, 2)
	wantThrough(t, "doubles of 0", sig, joined(list(moviStmt(2, 0), public), loopOf(2, double)), 1, 1, ptr(0, 0, 0), ptr(1, 0, 0), num(0))
	// 2^2, 2^4 .. 2^40 are 20 heads, and -1 is one more.
	wantFlaw(t, "shifts by 2", sig, shift(4, 2), impl.CkFix, 2)
	wantThrough(t, "shifts by 2 from 2^4", sig, shift(16, 2), 1, 1, ptr(0, 0, 0), ptr(1, 0, 0), num(-1))
	far := func(first int64) []impl.Stmt {
		return joined(list(moviStmt(4, first), doStmt(impl.Ins{Op: impl.OpShl, D: 4, A: 4, Imm: 20}), public), loopOf(1, doStmt(impl.Ins{Op: impl.OpAdd, D: 0, A: 0, B: 4})))
	}
	// Steps of 2^40 / 16 reach BoundMax in 16 rounds; the pointer that goes too far is a number from then on.
	wantThrough(t, "a pointer that goes too far", sig, far(65536), 1, 1, num(-1), ptr(1, 0, 0), num(7), hidden(255), num(1<<36))
	wantFlaw(t, "a pointer that goes too far, too slowly", sig, far(50000), impl.CkFix, 3)
	wantFlaw(t, "a pointer that goes too far is used", sig, joined(far(65536)[:3], loopOf(1, joined(far(65536)[4:], list(movOf(6, 6), loadOf(2, 0, 0, 0)))...)), impl.CkBounds, 6)
}

// The flag of a loop is looked at in every head.
func TestCheckLoopFlags(t *testing.T) {
	sig := mixedSig()
	for cond := int64(1); cond <= 4; cond++ {
		wantFlaw(t, "secret behind the body", sig, joined(list(public), loopOf(cond, hiding)), impl.CkSecretFlag, 1)
		wantFlaw(t, "secret behind the body", sig, joined(list(public), loopOf(cond, movStmt, hiding)), impl.CkSecretFlag, 1)
		wantThrough(t, "secret in the body, public behind it", sig, joined(list(public), loopOf(cond, hiding, public)), 1, 1)
		wantFlaw(t, "undefined ahead, defined in the body", sig, loopOf(cond, public), impl.CkFlag, 0)
		wantFlaw(t, "secret ahead, public in the body", sig, joined(list(hiding), loopOf(cond, public)), impl.CkSecretFlag, 1)
		wantFlaw(t, "secret in the second round", sig, joined(list(public), loopOf(cond, cmpiStmt(4, 0), movOf(4, 3))), impl.CkSecretFlag, 1)
		wantFlaw(t, "secret in an if in the body", sig, joined(list(public), loopOf(cond, ifStmt(1, 1, 0), hiding)), impl.CkSecretFlag, 1)
	}
	// The secret comes into r2 by way of r4, in the third round.
	slow := list(cmpiStmt(2, 0), movOf(2, 4), movOf(4, 3))
	wantFlaw(t, "secret in the third round", sig, joined(list(public), loopOf(1, slow...)), impl.CkSecretFlag, 1)
	wantFlaw(t, "secret for an inner if", sig, joined(list(public), loopOf(1, cmpiStmt(2, 0), ifStmt(2, 0, 0), movOf(2, 4), movOf(4, 3), public)), impl.CkSecretFlag, 3)
	wantFlaw(t, "secret for an inner while", sig, joined(list(public), loopOf(1, cmpiStmt(2, 0), whileStmt(2, 0), movOf(2, 4), movOf(4, 3), public)), impl.CkSecretFlag, 3)
}

// An Err in the body against rounds that run out, whichever is met first.
func TestCheckFixOrError(t *testing.T) {
	sig := mixedSig()
	// The load is out of bounds as soon as r0 may be 16 - first away, that is in round 17 - first.
	walk := func(first int64) []impl.Stmt {
		return joined(list(public), loopOf(1, loadOf(4, 0, first, 0), addiStmt(0, 1)))
	}
	for first := range int64(16) {
		wantFlaw(t, "out of bounds in time", sig, walk(first), impl.CkBounds, 2)
	}
	wide := mixedSig()
	for size := int64(1); size <= 24; size++ {
		wide.Heaps[0].Size = size
		err, at := int64(impl.CkBounds), int64(2)
		if size >= 20 {
			err, at = impl.CkFix, 1
		}
		wantFlaw(t, "out of bounds, or no round left", wide, walk(0), err, at)
		behind := joined(list(public), loopOf(1, addiStmt(0, 1), loadOf(4, 0, 0, 0)))
		if size >= 21 {
			err, at = impl.CkFix, 1
		} else {
			err, at = impl.CkBounds, 3
		}
		wantFlaw(t, "out of bounds behind the step, or no round left", wide, behind, err, at)
	}
	inner := loopOf(2, addiStmt(2, 1))
	wantFlaw(t, "the inner loop first", sig, joined(list(public), loopOf(1, joined(list(addiStmt(7, 1)), inner, list(loadOf(4, 2, 0, 0)))...)), impl.CkFix, 3)
	wantFlaw(t, "the load first", sig, joined(list(public), loopOf(1, joined(list(loadOf(4, 2, 0, 0)), inner)...)), impl.CkNotPtr, 2)
	wantFlaw(t, "the flag in the last head", sig, joined(growing(0, 30)[:2], loopOf(1, addiStmt(2, 1), hiding)), impl.CkSecretFlag, 2)
}

// twice is loops inside one another that are done in two rounds each time: so many deep they are 2^(depth+1) - 2 rounds.
func twice(depth int) []impl.Stmt {
	var inner []impl.Stmt
	for range depth {
		inner = joined(list(moviStmt(2, 0)), loopOf(impl.CondZ, joined(list(moviStmt(2, 5)), inner)...))
	}
	return inner
}

func once(count int) []impl.Stmt { return times(count, whileStmt(impl.CondZ, 0)) }

// 1000 rounds in all are let through, and the loop that would begin one more is told.
func TestCheckRoundsOfAll(t *testing.T) {
	sig := mixedSig()
	vals := []impl.Val{ptr(0, 0, 0), ptr(1, 0, 0), num(19)}
	// 20 rounds of an outer loop with 49 inner ones of one round.
	body := joined(list(addiStmt(2, 1), andiStmt(2, 19)), once(49))
	thousand := joined(list(moviStmt(2, 0), public), loopOf(impl.CondZ, body...))
	wantThrough(t, "1000 rounds", sig, thousand, 1, 1, vals...)
	wantFlaw(t, "1000 rounds, then one more", sig, joined(thousand, once(1)), impl.CkFix, int64(len(thousand)))
	wantFlaw(t, "1000 rounds, then one more with a body", sig, joined(thousand, list(movStmt), loopOf(1, loadOf(4, 2, 0, 0))), impl.CkFix, int64(len(thousand))+1)
	wantFlaw(t, "1000 rounds, then one more by a secret flag", sig, joined(thousand, list(hiding), once(1)), impl.CkFix, int64(len(thousand))+1)
	wantFlaw(t, "one ahead of 1000", sig, joined(list(public), once(1), thousand), impl.CkFix, int64(len(thousand))+1)
	wantFlaw(t, "1000 rounds, then an if by a secret flag", sig, joined(thousand, list(hiding, ifStmt(1, 0, 0))), impl.CkSecretFlag, int64(len(thousand))+1)
	longer := joined(list(moviStmt(2, 0), public), loopOf(impl.CondZ, joined(body, once(1))...))
	// 1020 rounds: in the outer loop's last one, of 51, the 32nd is the 1001st of all.
	wantFlaw(t, "50 inner loops", sig, longer, impl.CkFix, 2+1+2+30)
	outer := joined(list(moviStmt(2, 0), public), once(0), loopOf(impl.CondZ, joined(list(addiStmt(2, 1), andiStmt(2, 15)), once(63))...))
	wantFlaw(t, "1024 rounds, the last of them inner ones", sig, outer, impl.CkFix, 3+2+39)
	// 999 loops one behind the other are too few.
	wantThrough(t, "998 loops", sig, joined(list(public), once(998)), 1, 1)
}

// Rounds that were gone through before count again, and too many of them are told where they are.
func TestCheckRoundsAgain(t *testing.T) {
	sig := mixedSig()
	five := []impl.Val{ptr(0, 0, 0), ptr(1, 0, 0), num(5)}
	for depth := 1; depth <= 8; depth++ {
		wantThrough(t, "loops inside one another", sig, joined(list(public), twice(depth)), 1, 1, five...)
	}
	// 510 + 254 + 126 + 62 + 30 + 14 + 2 + 2 = 1000
	exact := joined(list(public), twice(8), twice(7), twice(6), twice(5), twice(4), twice(3), twice(1), twice(1))
	wantThrough(t, "1000 rounds", sig, exact, 1, 1, five...)
	wantFlaw(t, "1001 rounds", sig, joined(exact, once(1)), impl.CkFix, int64(len(exact)))
	// 1001 rounds: the last loop's second round is one too many.
	wantFlaw(t, "1001 rounds, one ahead", sig, joined(list(public), once(1), exact), impl.CkFix, int64(len(exact)))
	deep := joined(list(public), twice(9))
	if got, want := impl.Check(sig, deep), slowCheckOf(sig, deep); got.Err != impl.CkFix || !sameCheck(got, want) {
		t.Errorf("1022 rounds: %+v, not %+v", got, want)
	}
	places := make([]int, 30) // of the loop that has one too many, from the first statement of the 510
	for first := 480; first < 960; first++ {
		stmts := joined(list(public), once(first), twice(8))
		got, want := impl.Check(sig, stmts), slowCheckOf(sig, stmts)
		if !sameCheck(got, want) || (got.Err == impl.CkOk) != (first <= 490) {
			t.Fatalf("%d loops ahead of 510: %+v, not %+v", first, got, want)
		}
		if got.Err == impl.CkFix {
			places[int(got.At)-first]++
		}
	}
	for depth := range 8 {
		if places[2+3*depth] == 0 {
			t.Errorf("the loop at depth %d is never the one: %v", depth, places)
		}
	}
}

// randomChecked is statements of which many are let through by mixedSig.
func randomChecked(random *rand.Rand, size, depth int) []impl.Stmt {
	var stmts []impl.Stmt
	sig := mixedSig()
	for len(stmts) < size {
		if random.Intn(3) == 0 && depth > 0 {
			if random.Intn(8) > 0 {
				stmts = append(stmts, cmpiStmt([]int64{2, 4, 7, 7, 7, 7, 7, 3}[random.Intn(8)], random.Int63n(5)))
			}
			inner := randomChecked(random, random.Intn(1+size/2), depth-1)
			cond := 1 + random.Int63n(4)
			if random.Intn(2) == 0 {
				stmts = joined(stmts, choiceOf(cond, inner, randomChecked(random, random.Intn(1+size/3), depth-1)))
				continue
			}
			if grown := random.Int63n(24); random.Intn(2) == 0 {
				stmts = append(stmts, list(moviStmt(2, 0), public)...)
				inner = append(inner, addiStmt(2, 1), andiStmt(2, grown))
			}
			if random.Intn(4) > 0 {
				inner = append(inner, public)
			}
			stmts = joined(stmts, loopOf(cond, inner...))
			continue
		}
		op := 1 + random.Int63n(28)
		x := randomFor(random, sig, impl.Abs{Regs: sig.Regs}, op)
		if x.D != 0 && random.Intn(8) > 0 {
			x.D = []int64{2, 4, 4, 3, 5}[random.Intn(5)]
		}
		if random.Intn(3) > 0 && (op == impl.OpAdc || op == impl.OpSelz || op == impl.OpSelc) {
			stmts = append(stmts, public)
		}
		stmts = append(stmts, doStmt(x))
	}
	return stmts
}

// Check is held against the slow reading, and what it lets through against the machine: it does not fault, and is as the Abs says at its end.
func TestCheckIsSlow(t *testing.T) {
	random := rand.New(rand.NewSource(48))
	count := [13]int{}
	halted := 0
	for range 30000 {
		sig := mixedSig()
		if random.Intn(4) == 0 {
			sig.Regs[random.Intn(8)] = randomVal(random, 4)
		}
		stmts := randomChecked(random, random.Intn(14), 4)
		got, want := impl.Check(sig, stmts), slowCheckOf(sig, stmts)
		if !sameCheck(got, want) {
			t.Fatalf("%+v:\n got %+v\nwant %+v", stmts, got, want)
		}
		count[got.Err]++
		if got.Err != impl.CkOk {
			continue
		}
		m := randomMachAs(random, sig, impl.Abs{Regs: sig.Regs})
		m.HasZ, m.Z, m.HasC, m.C = false, false, false, false
		end := impl.RunMach(impl.Lower(stmts), m, 300)
		if !impl.Fits(sig, m) || end.Status == impl.Faulted {
			t.Fatalf("%+v faults: %s", stmts, showMach(end))
		}
		if end.Status == impl.Halted {
			halted++
			if !slowIsAs(got.Abs, end) {
				t.Fatalf("%+v ends with %s, not as %+v", stmts, showMach(end), got.Abs)
			}
		}
	}
	for err, times := range count[:11] {
		if times < 20 {
			t.Errorf("Err %d came %d times only: %v", err, times, count)
		}
	}
	if halted < 2000 {
		t.Errorf("halted %d times only", halted)
	}
}

func TestCheckKeepsArguments(t *testing.T) {
	random := rand.New(rand.NewSource(49))
	for range 500 {
		sig := mixedSig()
		sig.Regs = append(make([]impl.Val, 0, 20), sig.Regs...)
		stmts := randomChecked(random, random.Intn(6), 2)
		oldSig, old := cloneSig(sig), slices.Clone(stmts)
		got := impl.Check(sig, stmts)
		again := cloneAbs(got.Abs)
		fill(got.Abs.Regs, hidden(99))
		if !sameSig(sig, oldSig) || !slices.Equal(stmts, old) || !slices.Equal(sig.Regs[:20][8:], make([]impl.Val, 12)) {
			t.Fatalf("an argument is changed")
		}
		got = impl.Check(sig, stmts)
		fill(sig.Regs, hidden(98))
		fill(stmts, impl.Stmt{})
		if !sameAbs(got.Abs, again) {
			t.Fatalf("the answer shares memory with an argument")
		}
	}
}
