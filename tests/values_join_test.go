package tests

import (
	"math"
	"math/rand"
	"testing"

	"loop.example/s01319/impl"
)

func TestJoinRows(t *testing.T) {
	odd := func(kind int64) impl.Val {
		return impl.Val{Kind: kind, Secret: true, Max: 9, H: 1, Lo: 2, Hi: 3}
	}
	rows := []struct{ a, b, want impl.Val }{
		{num(3), num(3), num(3)}, {num(3), num(9), num(9)}, {num(0), num(farthest), num(farthest)},
		{num(3), hidden(9), hidden(9)}, {hidden(3), num(9), hidden(9)}, {hidden(3), hidden(9), hidden(9)},
		{num(-1), num(9), num(-1)}, {num(-1), num(-1), num(-1)}, {num(-1), num(0), num(-1)}, {num(-1), num(farthest), num(-1)},
		{hidden(-1), num(9), hidden(-1)}, {num(-1), hidden(9), hidden(-1)}, {hidden(-1), hidden(-1), hidden(-1)},
		{ptr(1, 0, 4), ptr(1, 2, 9), ptr(1, 0, 9)}, {ptr(1, 0, 9), ptr(1, 2, 4), ptr(1, 0, 9)}, {ptr(1, 0, 1), ptr(1, 8, 9), ptr(1, 0, 9)},
		{ptr(0, -5, -4), ptr(0, -9, -8), ptr(0, -9, -4)}, {ptr(7, -farthest, 0), ptr(7, 0, farthest), ptr(7, -farthest, farthest)},
		{ptr(1, 0, 4), ptr(0, 0, 4), num(-1)}, {ptr(0, 0, 0), ptr(2, 0, 0), num(-1)},
		{ptr(1, 0, 4), num(3), num(-1)}, {ptr(1, 0, 4), hidden(3), hidden(-1)}, {ptr(1, 0, 4), num(-1), num(-1)}, {ptr(1, 0, 4), hidden(-1), hidden(-1)},
		{ptr(0, 0, 0), num(0), num(-1)},
		// Not valid: the words hold all the same.
		{num(-5), num(-7), num(-5)}, {num(-5), num(-1), num(-1)}, {num(-2), num(3), num(3)},
		{num(math.MinInt64), num(math.MaxInt64), num(math.MaxInt64)},
		{odd(0), num(3), hidden(9)}, {odd(0), odd(0), hidden(9)},
		{odd(1), odd(1), ptr(1, 2, 3)}, {odd(1), ptr(1, 0, 0), ptr(1, 0, 3)}, {odd(1), ptr(2, 0, 0), hidden(-1)}, {odd(1), num(3), hidden(-1)},
		{ptr(1, 9, 2), ptr(1, 5, 4), ptr(1, 5, 4)}, {ptr(-3, 0, 0), ptr(-3, 1, 1), ptr(-3, 0, 1)}, {ptr(1, math.MaxInt64, math.MinInt64), ptr(1, math.MinInt64, math.MaxInt64), ptr(1, math.MinInt64, math.MaxInt64)},
		{odd(2), odd(2), hidden(-1)}, {impl.Val{Kind: 2, Max: 4}, impl.Val{Kind: 2, Max: 4}, num(-1)}, {impl.Val{Kind: -1}, num(4), num(-1)}, {impl.Val{Kind: 2, H: 1}, ptr(1, 0, 0), num(-1)},
		{odd(3), num(4), hidden(-1)}, {impl.Val{Kind: math.MaxInt64}, impl.Val{Kind: math.MinInt64}, num(-1)},
	}
	for _, r := range rows {
		for _, got := range []impl.Val{impl.JoinVals(r.a, r.b), impl.JoinVals(r.b, r.a), slowJoin(r.a, r.b), slowJoin(r.b, r.a)} {
			if got != r.want {
				t.Errorf("%+v and %+v: %+v, not %+v", r.a, r.b, got, r.want)
			}
		}
	}
}

// nearVal is a Val of any fields near the edges, mostly not valid.
func nearVal(random *rand.Rand) impl.Val {
	some := func(list ...int64) int64 { return list[random.Intn(len(list))] }
	return impl.Val{Kind: some(-1, 0, 0, 1, 1, 2), Secret: random.Intn(2) == 0, Max: some(-2, -1, 0, 1, 9, farthest),
		H: some(0, 0, 1), Lo: some(-9, -1, 0, 1, 5), Hi: some(-9, -1, 0, 1, 5)}
}

func TestJoinIsSlow(t *testing.T) {
	random := rand.New(rand.NewSource(43))
	for range 100000 {
		a, b := nearVal(random), nearVal(random)
		if got, want := impl.JoinVals(a, b), slowJoin(a, b); got != want {
			t.Fatalf("%+v and %+v: %+v, not %+v", a, b, got, want)
		}
	}
	for _, a := range someVals() {
		for _, b := range someVals() {
			if got, want := impl.JoinVals(a, b), slowJoin(a, b); got != want {
				t.Errorf("%+v and %+v: %+v, not %+v", a, b, got, want)
			}
		}
	}
}

// Promise 7: a register that is as one of two valid Vals says is as their join says, which is valid too.
func TestJoinHoldsOfBoth(t *testing.T) {
	random := rand.New(rand.NewSource(44))
	for range 100000 {
		sig := randomSig(random)
		m := randomMachAs(random, sig, impl.Abs{Regs: sig.Regs})
		a, b := sig.Regs[0], sig.Regs[1]
		joined := impl.JoinVals(a, b)
		if !slowVal(joined, len(sig.Heaps)) {
			t.Fatalf("%+v and %+v: %+v is not valid", a, b, joined)
		}
		for _, reg := range m.Regs[:2] {
			if !slowIs(joined, reg, m.Heaps) {
				t.Fatalf("%+v and %+v: %d is not as %+v", a, b, reg, joined)
			}
		}
		if (a.Secret || b.Secret) && !joined.Secret {
			t.Fatalf("%+v and %+v: %+v is public", a, b, joined)
		}
	}
}

// Joins grow only: a Val joined with its join is the join, and the order does not count.
func TestJoinGrows(t *testing.T) {
	for _, a := range someVals() {
		if impl.JoinVals(a, a) != a {
			t.Errorf("%+v with itself: %+v", a, impl.JoinVals(a, a))
		}
		for _, b := range someVals() {
			both := impl.JoinVals(a, b)
			if impl.JoinVals(b, a) != both || impl.JoinVals(a, both) != both || impl.JoinVals(both, b) != both {
				t.Errorf("%+v and %+v: %+v", a, b, both)
			}
		}
	}
}
