package tests

import (
	"slices"
	"testing"

	"loop.example/s01319/impl"
)

func sameCheck(a, b impl.CheckRes) bool {
	return a.Err == b.Err && a.At == b.At && sameAbs(a.Abs, b.Abs)
}

func wantCheck(t *testing.T, name string, sig impl.Sig, stmts []impl.Stmt, want impl.CheckRes) {
	t.Helper()
	if got := impl.Check(sig, stmts); !sameCheck(got, want) {
		t.Errorf("%s:\n got %+v\nwant %+v", name, got, want)
	}
	if slow := slowCheckOf(sig, stmts); !sameCheck(slow, want) {
		t.Errorf("%s: the slow reading is %+v, not %+v", name, slow, want)
	}
}

// wantFlaw asks for an Err at a place.
func wantFlaw(t *testing.T, name string, sig impl.Sig, stmts []impl.Stmt, err, at int64) {
	t.Helper()
	wantCheck(t, name, sig, stmts, impl.CheckRes{Err: err, At: at})
}

// wantThrough asks that statements are let through, with so many flags and the given Vals for the first registers.
func wantThrough(t *testing.T, name string, sig impl.Sig, stmts []impl.Stmt, z, c int64, vals ...impl.Val) {
	t.Helper()
	end := impl.Abs{Regs: slices.Clone(sig.Regs), Z: z, C: c}
	copy(end.Regs, vals)
	wantCheck(t, name, sig, stmts, impl.CheckRes{Abs: end})
}

// slowChecker goes through the list itself, by numbers, and every round of every loop each time.
type slowChecker struct {
	sig    impl.Sig
	list   []impl.Stmt
	rounds int
	err    int64
	at     int
}

func slowCheckOf(sig impl.Sig, list []impl.Stmt) impl.CheckRes {
	if !slowSig(sig) {
		return impl.CheckRes{Err: impl.CkNoSig}
	}
	if len(impl.Lower(list)) == 0 {
		return impl.CheckRes{Err: impl.CkNoStmts}
	}
	c := &slowChecker{sig: sig, list: list}
	end := c.stretch(0, len(list), impl.Abs{Regs: slices.Clone(sig.Regs)})
	if c.err != 0 {
		return impl.CheckRes{Err: c.err, At: int64(c.at)}
	}
	return impl.CheckRes{Abs: end}
}

func (c *slowChecker) fail(err int64, at int) impl.Abs {
	c.err, c.at = err, at
	return impl.Abs{}
}

func (c *slowChecker) stretch(from, to int, a impl.Abs) impl.Abs {
	for i := from; i < to && c.err == 0; {
		s := c.list[i]
		middle := i + 1 + int(s.Then)
		switch s.Kind {
		case impl.SIns:
			res := impl.Transfer(c.sig, a, s.Ins)
			if a = res.Abs; res.Err != 0 {
				return c.fail(res.Err, i)
			}
		case impl.SIf:
			if c.lookAt(a, i); c.err == 0 {
				then := c.stretch(i+1, middle, a)
				if c.err == 0 {
					a = slowJoinAbs(then, c.stretch(middle, middle+int(s.Else), a))
				}
			}
		case impl.SWhile:
			a = c.loop(i, a)
		}
		i = middle + int(s.Else)
	}
	return a
}

func (c *slowChecker) lookAt(a impl.Abs, at int) {
	flag := a.Z
	if c.list[at].Cond >= impl.CondC {
		flag = a.C
	}
	if flag == 0 {
		c.fail(impl.CkFlag, at)
	}
	if flag == 2 {
		c.fail(impl.CkSecretFlag, at)
	}
}

func (c *slowChecker) loop(at int, head impl.Abs) impl.Abs {
	for round := 1; ; round++ {
		if round == 21 || c.rounds == 1000 {
			return c.fail(impl.CkFix, at)
		}
		c.rounds++
		if c.lookAt(head, at); c.err != 0 {
			return head
		}
		behind := c.stretch(at+1, at+1+int(c.list[at].Then), head)
		if c.err != 0 {
			return head
		}
		next := slowJoinAbs(head, behind)
		if sameAbs(next, head) {
			return head
		}
		head = next
	}
}

func slowJoinAbs(a, b impl.Abs) impl.Abs {
	if len(a.Regs) != len(b.Regs) {
		return impl.Abs{}
	}
	out := cloneAbs(a)
	for i := range out.Regs {
		out.Regs[i] = slowJoin(a.Regs[i], b.Regs[i])
	}
	pick := func(a, b int64) int64 {
		switch {
		case a == 0 || b == 0:
			return 0
		case a == 2 || b == 2:
			return 2
		}
		return 1
	}
	out.Z, out.C = pick(a.Z, b.Z), pick(a.C, b.C)
	return out
}
