package tests

import (
	"math"
	"math/rand"
	"slices"
	"testing"

	"loop.example/s01319/impl"
)

// wantValue asks what is known of D behind an op on A = r1 and B = r2 with D = r3; nothing else may change, flags aside where the op sets them.
func wantValue(t *testing.T, op, imm int64, a, b, want impl.Val) {
	t.Helper()
	x := impl.Ins{Op: op, D: 3, A: 1, B: 2, Imm: imm}
	switch op {
	case impl.OpMov, impl.OpAddi, impl.OpAndi, impl.OpShl, impl.OpShr:
		x.B = 0
	case impl.OpMovi:
		x.A, x.B = 0, 0
	}
	before := absWith(hidden(-1), a, b, hidden(77), num(5), ptr(0, 1, 2), hidden(6), num(-1))
	after := cloneAbs(before)
	after.Regs[3] = want
	if op >= impl.OpAdds && op <= impl.OpSubs && (a.Secret || b.Secret) {
		after.Z, after.C = impl.FlagSecret, impl.FlagSecret
	}
	wantTransfer(t, "a value", plainSig(), before, x, impl.AbsRes{Abs: after})
}

func TestTransferMov(t *testing.T) {
	for _, v := range someVals() {
		wantValue(t, impl.OpMov, 0, v, num(0), v)
	}
	for _, imm := range []int64{0, 1, 5, 999999, 1000000} {
		wantValue(t, impl.OpMovi, imm, hidden(4), hidden(4), num(imm))
	}
	for _, imm := range []int64{-1, -2, -1000000} {
		wantValue(t, impl.OpMovi, imm, hidden(4), hidden(4), num(-1))
	}
}

func TestTransferAdd(t *testing.T) {
	rows := []struct{ a, b, want impl.Val }{
		{num(2), num(3), num(5)}, {num(0), num(0), num(0)}, {hidden(2), num(3), hidden(5)}, {hidden(2), hidden(3), hidden(5)},
		{num(-1), num(3), num(-1)}, {num(-1), num(-1), num(-1)}, {hidden(-1), num(3), hidden(-1)}, {hidden(3), num(-1), hidden(-1)},
		{num(farthest - 1), num(1), num(farthest)}, {num(farthest), num(0), num(farthest)}, {num(farthest), num(1), num(-1)}, {num(farthest), num(farthest), num(-1)},
		{hidden(farthest), num(1), hidden(-1)}, {num(1 << 39), num(1 << 39), num(farthest)}, {num(1 << 39), num(1<<39 + 1), num(-1)},
		{ptr(1, 4, 8), num(0), ptr(1, 4, 8)}, {ptr(1, 4, 8), num(7), ptr(1, 4, 15)}, {ptr(0, -8, -4), num(7), ptr(0, -8, 3)},
		{ptr(1, 4, 8), num(-1), num(-1)}, {ptr(1, 4, 8), hidden(7), hidden(-1)}, {ptr(1, 4, 8), hidden(-1), hidden(-1)}, {ptr(1, 4, 8), hidden(0), hidden(-1)},
		{ptr(1, 0, 8), num(farthest - 8), ptr(1, 0, farthest)}, {ptr(1, 0, 8), num(farthest - 7), num(-1)}, {ptr(1, 0, 8), num(farthest), num(-1)},
		{ptr(2, farthest, farthest), num(0), ptr(2, farthest, farthest)}, {ptr(2, farthest, farthest), num(1), num(-1)}, {ptr(2, farthest, farthest), num(farthest), num(-1)},
		{ptr(2, -farthest, -farthest), num(farthest), ptr(2, -farthest, 0)}, {ptr(2, -farthest, 0), num(farthest), ptr(2, -farthest, farthest)}, {ptr(2, -farthest, 1), num(farthest), num(-1)},
		{ptr(1, 0, 0), ptr(1, 0, 0), num(-1)}, {ptr(1, 0, 0), ptr(2, 0, 0), num(-1)}, {ptr(0, 0, 0), ptr(0, 5, 5), num(-1)},
	}
	for _, r := range rows {
		for _, op := range []int64{impl.OpAdd, impl.OpAdds} {
			wantValue(t, op, 0, r.a, r.b, r.want)
			wantValue(t, op, 0, r.b, r.a, r.want)
		}
	}
}

func TestTransferAddi(t *testing.T) {
	rows := []struct {
		a    impl.Val
		imm  int64
		want impl.Val
	}{
		{num(7), 3, num(10)}, {num(7), 0, num(7)}, {num(7), -1, num(-1)}, {num(7), -3, num(-1)}, {num(0), 1000000, num(1000000)},
		{hidden(7), 3, hidden(10)}, {hidden(7), -3, hidden(-1)}, {num(-1), 3, num(-1)}, {num(-1), 0, num(-1)}, {hidden(-1), 3, hidden(-1)}, {num(-1), 1, num(-1)},
		{num(farthest), 0, num(farthest)}, {num(farthest), 1, num(-1)}, {num(farthest - 1000000), 1000000, num(farthest)}, {num(farthest - 999999), 1000000, num(-1)}, {hidden(farthest), 1, hidden(-1)},
		{ptr(1, 4, 8), -4, ptr(1, 0, 4)}, {ptr(1, 4, 8), 4, ptr(1, 8, 12)}, {ptr(1, 4, 8), 0, ptr(1, 4, 8)}, {ptr(1, 4, 8), -1000000, ptr(1, -999996, -999992)},
		{ptr(0, 0, farthest-5), 5, ptr(0, 5, farthest)}, {ptr(0, 0, farthest-5), 6, num(-1)}, {ptr(0, farthest, farthest), 1, num(-1)}, {ptr(0, farthest, farthest), 0, ptr(0, farthest, farthest)},
		{ptr(0, farthest, farthest), -1000000, ptr(0, farthest-1000000, farthest-1000000)},
		{ptr(2, 5-farthest, 0), -5, ptr(2, -farthest, -5)}, {ptr(2, 5-farthest, 0), -6, num(-1)}, {ptr(2, -farthest, -farthest), -1, num(-1)}, {ptr(2, -farthest, -farthest), 1, ptr(2, 1-farthest, 1-farthest)},
		{ptr(2, -farthest, farthest), 0, ptr(2, -farthest, farthest)}, {ptr(2, -farthest, farthest), 1, num(-1)}, {ptr(2, -farthest, farthest), -1, num(-1)},
	}
	for _, r := range rows {
		wantValue(t, impl.OpAddi, r.imm, r.a, num(0), r.want)
		wantValue(t, impl.OpAddi, r.imm, r.a, hidden(0), r.want)
	}
}

func TestTransferOfTwo(t *testing.T) {
	rows := []struct {
		op         int64
		a, b, want impl.Val
	}{
		{impl.OpSub, num(5), num(3), num(-1)}, {impl.OpSub, num(0), num(0), num(-1)}, {impl.OpSub, hidden(5), num(3), hidden(-1)}, {impl.OpSub, ptr(1, 0, 0), ptr(1, 0, 0), num(-1)}, {impl.OpSub, ptr(1, 0, 0), num(0), num(-1)},
		{impl.OpSubs, num(5), num(3), num(-1)}, {impl.OpSubs, hidden(5), num(3), hidden(-1)}, {impl.OpSubs, ptr(1, 0, 0), hidden(1), hidden(-1)},
		{impl.OpMul, num(7), num(255), num(1785)}, {impl.OpMul, hidden(7), num(255), hidden(1785)}, {impl.OpMul, num(0), num(farthest), num(0)}, {impl.OpMul, num(1), num(farthest), num(farthest)}, {impl.OpMul, num(2), num(farthest), num(-1)},
		{impl.OpMul, num(1 << 20), num(1 << 20), num(farthest)}, {impl.OpMul, num(1<<20 + 1), num(1 << 20), num(-1)}, {impl.OpMul, num(farthest), num(farthest), num(-1)}, {impl.OpMul, num(1 << 32), num(1 << 32), num(-1)},
		{impl.OpMul, num(0), num(-1), num(-1)}, {impl.OpMul, num(-1), num(-1), num(-1)}, {impl.OpMul, hidden(0), num(-1), hidden(-1)}, {impl.OpMul, ptr(0, 0, 0), num(0), num(-1)}, {impl.OpMul, ptr(0, 0, 0), ptr(0, 0, 0), num(-1)}, {impl.OpMul, ptr(0, 0, 0), hidden(2), hidden(-1)},
		{impl.OpMul, num(3), num(farthest / 3), num(farthest - 1)}, {impl.OpMul, num(3), num(farthest/3 + 1), num(-1)}, {impl.OpMul, num(0), num(0), num(0)},
		{impl.OpAnd, num(7), num(3), num(3)}, {impl.OpAnd, num(-1), num(3), num(3)}, {impl.OpAnd, num(-1), num(-1), num(-1)}, {impl.OpAnd, num(0), num(farthest), num(0)}, {impl.OpAnd, hidden(-1), num(3), hidden(3)}, {impl.OpAnd, hidden(3), num(-1), hidden(3)}, {impl.OpAnd, ptr(1, 0, 0), num(15), num(15)}, {impl.OpAnd, ptr(1, 0, 0), ptr(1, 0, 0), num(-1)}, {impl.OpAnd, ptr(1, 0, 0), num(-1), num(-1)}, {impl.OpAnd, num(0), num(-1), num(0)},
		{impl.OpAdc, num(7), num(7), num(15)}, {impl.OpAdc, num(0), num(0), num(1)}, {impl.OpAdc, num(farthest - 1), num(0), num(farthest)}, {impl.OpAdc, num(farthest), num(0), num(-1)}, {impl.OpAdc, num(farthest), num(farthest), num(-1)}, {impl.OpAdc, hidden(7), num(7), hidden(15)}, {impl.OpAdc, num(-1), num(7), num(-1)}, {impl.OpAdc, num(-1), num(-1), num(-1)}, {impl.OpAdc, ptr(1, 0, 0), num(0), num(-1)}, {impl.OpAdc, ptr(1, 0, 0), num(7), num(-1)}, {impl.OpAdc, ptr(1, 0, 0), ptr(1, 0, 0), num(-1)}, {impl.OpAdc, ptr(1, 0, 0), hidden(7), hidden(-1)},
	}
	for _, op := range []int64{impl.OpOr, impl.OpXor} {
		for _, r := range []struct{ a, b, want impl.Val }{
			{num(0), num(0), num(0)}, {num(0), num(1), num(1)}, {num(1), num(1), num(1)}, {num(2), num(0), num(3)}, {num(2), num(1), num(3)}, {num(3), num(3), num(3)}, {num(4), num(3), num(7)}, {num(255), num(7), num(255)}, {num(256), num(7), num(511)},
			{num(1<<39 - 1), num(0), num(1<<39 - 1)}, {num(1 << 39), num(0), num(farthest - 1)}, {num(farthest - 1), num(farthest - 1), num(farthest - 1)}, {num(farthest), num(0), num(-1)}, {num(farthest), num(farthest), num(-1)},
			{hidden(5), num(2), hidden(7)}, {hidden(farthest), num(2), hidden(-1)}, {num(-1), num(0), num(-1)}, {num(-1), num(-1), num(-1)}, {hidden(-1), num(4), hidden(-1)}, {ptr(1, 0, 0), num(0), num(-1)}, {ptr(1, 0, 0), num(7), num(-1)}, {ptr(1, 0, 0), ptr(1, 0, 0), num(-1)}, {ptr(1, 0, 0), hidden(0), hidden(-1)},
		} {
			wantValue(t, op, 0, r.a, r.b, r.want)
			wantValue(t, op, 0, r.b, r.a, r.want)
		}
	}
	for _, r := range rows {
		wantValue(t, r.op, 0, r.a, r.b, r.want)
		wantValue(t, r.op, 0, r.b, r.a, r.want)
	}
}

func TestTransferDiv(t *testing.T) {
	timing := impl.AbsRes{Err: impl.CkTiming}
	for _, b := range []impl.Val{num(0), num(3), num(-1), num(farthest), ptr(0, 0, 0)} {
		wantValue(t, impl.OpDiv, 0, num(7), b, num(7))
		wantValue(t, impl.OpDiv, 0, num(0), b, num(0))
		wantValue(t, impl.OpDiv, 0, num(-1), b, num(-1))
		wantValue(t, impl.OpDiv, 0, num(farthest), b, num(farthest))
		wantValue(t, impl.OpDiv, 0, ptr(1, 0, 4), b, num(-1))
		for _, limit := range []int64{-1, 0, 7} {
			x := impl.Ins{Op: impl.OpDiv, D: 3, A: 1, B: 2}
			wantTransfer(t, "a secret A", plainSig(), absWith(num(0), hidden(limit), b), x, timing)
			wantTransfer(t, "a secret B", plainSig(), absWith(num(0), b, hidden(limit)), x, timing)
			wantTransfer(t, "both secret", plainSig(), absWith(num(0), hidden(limit), hidden(0)), x, timing)
			wantTransfer(t, "a secret D", plainSig(), absWith(num(0), num(4), num(4), hidden(limit)), x, impl.AbsRes{Abs: absWith(num(0), num(4), num(4), num(4))})
		}
	}
}

func TestTransferByNumber(t *testing.T) {
	rows := []struct {
		op   int64
		a    impl.Val
		imm  int64
		want impl.Val
	}{
		{impl.OpAndi, num(-1), 15, num(15)}, {impl.OpAndi, num(7), 15, num(7)}, {impl.OpAndi, num(15), 15, num(15)}, {impl.OpAndi, num(16), 15, num(15)}, {impl.OpAndi, hidden(-1), 15, hidden(15)}, {impl.OpAndi, hidden(7), 15, hidden(7)}, {impl.OpAndi, num(7), 0, num(0)}, {impl.OpAndi, num(0), 1000000, num(0)}, {impl.OpAndi, num(-1), 0, num(0)}, {impl.OpAndi, num(farthest), 1000000, num(1000000)}, {impl.OpAndi, ptr(1, 0, 0), 255, num(255)},
		{impl.OpShl, num(7), 3, num(56)}, {impl.OpShl, num(7), 0, num(7)}, {impl.OpShl, hidden(7), 3, hidden(56)}, {impl.OpShl, num(-1), 0, num(-1)}, {impl.OpShl, num(-1), 5, num(-1)}, {impl.OpShl, hidden(-1), 5, hidden(-1)}, {impl.OpShl, num(1), 40, num(farthest)}, {impl.OpShl, num(1), 41, num(-1)}, {impl.OpShl, num(1), 63, num(-1)}, {impl.OpShl, num(2), 63, num(-1)}, {impl.OpShl, num(4), 62, num(-1)}, {impl.OpShl, num(3), 38, num(3 << 38)}, {impl.OpShl, num(3), 39, num(-1)}, {impl.OpShl, num(farthest), 0, num(farthest)}, {impl.OpShl, num(farthest), 1, num(-1)}, {impl.OpShl, num(farthest), 24, num(-1)}, {impl.OpShl, num(farthest), 63, num(-1)}, {impl.OpShl, num(0), 0, num(0)}, {impl.OpShl, num(0), 40, num(0)}, {impl.OpShl, num(0), 63, num(0)}, {impl.OpShl, ptr(1, 0, 0), 0, num(-1)}, {impl.OpShl, ptr(1, 0, 0), 3, num(-1)},
		{impl.OpShr, num(255), 4, num(15)}, {impl.OpShr, num(255), 0, num(255)}, {impl.OpShr, num(255), 8, num(0)}, {impl.OpShr, num(255), 63, num(0)}, {impl.OpShr, num(9), 1, num(4)}, {impl.OpShr, num(farthest), 40, num(1)}, {impl.OpShr, num(farthest), 0, num(farthest)}, {impl.OpShr, num(0), 23, num(0)}, {impl.OpShr, hidden(255), 4, hidden(15)},
		{impl.OpShr, num(-1), 0, num(-1)}, {impl.OpShr, num(-1), 1, num(-1)}, {impl.OpShr, num(-1), 22, num(-1)}, {impl.OpShr, num(-1), 23, num(-1)}, {impl.OpShr, num(-1), 24, num(farthest - 1)}, {impl.OpShr, num(-1), 25, num(1<<39 - 1)}, {impl.OpShr, num(-1), 60, num(15)}, {impl.OpShr, num(-1), 63, num(1)}, {impl.OpShr, hidden(-1), 23, hidden(-1)}, {impl.OpShr, hidden(-1), 24, hidden(farthest - 1)}, {impl.OpShr, ptr(1, 0, 0), 23, num(-1)}, {impl.OpShr, ptr(1, 0, 0), 24, num(farthest - 1)}, {impl.OpShr, ptr(1, 0, 0), 63, num(1)},
	}
	for _, r := range rows {
		wantValue(t, r.op, r.imm, r.a, num(9), r.want)
		wantValue(t, r.op, r.imm, r.a, hidden(9), r.want)
	}
}

// The flags of a sum, a difference and a comparison are as secret as what went in.
func TestTransferFlags(t *testing.T) {
	for _, op := range []int64{impl.OpAdds, impl.OpSubs, impl.OpCmp, impl.OpCmpi} {
		for _, a := range []impl.Val{num(3), hidden(3), num(-1), hidden(-1), ptr(1, 0, 0)} {
			for _, b := range []impl.Val{num(3), hidden(3), num(-1), hidden(-1), ptr(1, 0, 0)} {
				for flags := range int64(9) {
					before := absFlags(absWith(hidden(-1), a, b, hidden(0)), flags/3, flags%3)
					x := impl.Ins{Op: op, D: 4, A: 1, B: 2}
					secret := a.Secret || b.Secret
					if op == impl.OpCmpi {
						x.B, secret = 0, a.Secret
					}
					want := int64(impl.FlagPublic)
					if secret {
						want = impl.FlagSecret
					}
					if op >= impl.OpCmp {
						x.D = 0
					}
					got := impl.Transfer(plainSig(), before, x)
					if got.Err != impl.CkOk || got.Abs.Z != want || got.Abs.C != want {
						t.Errorf("%+v from %+v: %+v", x, before, got)
					}
					if op >= impl.OpCmp && !slices.Equal(got.Abs.Regs, before.Regs) {
						t.Errorf("%+v changes a register: %+v", x, got)
					}
				}
			}
		}
	}
}

func TestTransferAdcFlags(t *testing.T) {
	for z := range int64(3) {
		for _, a := range []impl.Val{num(7), hidden(7)} {
			for _, b := range []impl.Val{num(8), hidden(8)} {
				x := impl.Ins{Op: impl.OpAdc, D: 3, A: 1, B: 2}
				before := absWith(hidden(-1), a, b)
				wantTransfer(t, "no C", plainSig(), absFlags(before, z, 0), x, impl.AbsRes{Err: impl.CkFlag})
				secret := a.Secret || b.Secret
				after := cloneAbs(before)
				after.Regs[3] = impl.Val{Secret: secret, Max: 16}
				flag := int64(1)
				if secret {
					flag = 2
				}
				wantTransfer(t, "a public C", plainSig(), absFlags(before, z, 1), x, impl.AbsRes{Abs: absFlags(cloneAbs(after), flag, flag)})
				after.Regs[3].Secret = true
				wantTransfer(t, "a secret C", plainSig(), absFlags(before, z, 2), x, impl.AbsRes{Abs: absFlags(after, 2, 2)})
			}
		}
	}
}

func TestTransferSelect(t *testing.T) {
	rows := []struct{ a, b, public, secret impl.Val }{
		{num(3), num(9), num(9), hidden(9)}, {num(3), hidden(9), hidden(9), hidden(9)}, {hidden(3), hidden(9), hidden(9), hidden(9)},
		{num(-1), num(9), num(-1), hidden(-1)}, {hidden(-1), num(9), hidden(-1), hidden(-1)}, {num(0), num(0), num(0), hidden(0)},
		{ptr(1, 0, 4), ptr(1, 2, 9), ptr(1, 0, 9), hidden(-1)}, {ptr(1, 3, 3), ptr(1, 3, 3), ptr(1, 3, 3), hidden(-1)},
		{ptr(1, 0, 4), ptr(2, 0, 4), num(-1), hidden(-1)}, {ptr(1, 0, 4), num(3), num(-1), hidden(-1)}, {ptr(1, 0, 4), hidden(3), hidden(-1), hidden(-1)},
	}
	for _, op := range []int64{impl.OpSelz, impl.OpSelc} {
		for _, r := range rows {
			for _, pair := range [][2]impl.Val{{r.a, r.b}, {r.b, r.a}} {
				for other := range int64(3) {
					x := impl.Ins{Op: op, D: 3, A: 1, B: 2}
					flagged := func(a impl.Abs, flag int64) impl.Abs {
						if op == impl.OpSelz {
							return absFlags(cloneAbs(a), flag, other)
						}
						return absFlags(cloneAbs(a), other, flag)
					}
					before := absWith(hidden(-1), pair[0], pair[1], ptr(0, 0, 0))
					after := cloneAbs(before)
					wantTransfer(t, "no flag", plainSig(), flagged(before, 0), x, impl.AbsRes{Err: impl.CkFlag})
					after.Regs[3] = r.public
					wantTransfer(t, "a public flag", plainSig(), flagged(before, 1), x, impl.AbsRes{Abs: flagged(after, 1)})
					after.Regs[3] = r.secret
					wantTransfer(t, "a secret flag", plainSig(), flagged(before, 2), x, impl.AbsRes{Abs: flagged(after, 2)})
				}
			}
		}
	}
}

// isStoreOp and isIndexOp tell of a load or store by its name.
func isStoreOp(op int64) bool {
	return slices.Contains([]int64{impl.OpStb, impl.OpStq, impl.OpStbx, impl.OpStqx}, op)
}

func isIndexOp(op int64) bool {
	return slices.Contains([]int64{impl.OpLdbx, impl.OpLdqx, impl.OpStbx, impl.OpStqx}, op)
}

func widthOfOp(op int64) int64 {
	if slices.Contains([]int64{impl.OpLdb, impl.OpStb, impl.OpLdbx, impl.OpStbx}, op) {
		return 1
	}
	return 8
}

// Each Err of a load or store alone, and each with every later one: the order decides.
func TestTransferAccessErrors(t *testing.T) {
	for op := int64(impl.OpLdb); op <= impl.OpStqx; op++ {
		for faults := range 1 << 6 {
			sig := plainSig()
			a, index, d := ptr(1, 0, 0), num(0), num(1)
			heap := impl.HeapSig{Size: 32, Write: true}
			want := int64(impl.CkOk)
			blame := func(bit int, err int64) bool {
				if faults>>bit&1 == 0 {
					return false
				}
				if want == impl.CkOk {
					want = err
				}
				return true
			}
			if blame(0, impl.CkNotPtr) {
				a = num(0)
			}
			if blame(1, impl.CkHeap) && a.Kind == impl.ValPtr {
				a.H = 2
			}
			if isIndexOp(op) && blame(2, impl.CkIndex) {
				index = hidden(0)
			}
			if blame(3, impl.CkBounds) {
				if a.Kind == impl.ValPtr {
					a.Lo = -1
				}
			}
			if isStoreOp(op) && blame(4, impl.CkReadOnly) {
				heap.Write = false
			}
			if isStoreOp(op) && blame(5, impl.CkSecretStore) {
				d = hidden(1)
			}
			sig.Heaps[1] = heap
			x := impl.Ins{Op: op, D: 3, A: 1, H: 1}
			if isIndexOp(op) {
				x.B = 2
			}
			got := impl.Transfer(sig, absWith(num(0), a, index, d), x)
			if got.Err != want || want != impl.CkOk && !sameAbs(got.Abs, impl.Abs{}) {
				t.Errorf("%+v with faults %b: %+v, not %d", x, faults, got, want)
			}
		}
	}
}

func TestTransferAccessPointer(t *testing.T) {
	for op := int64(impl.OpLdb); op <= impl.OpStqx; op++ {
		for _, a := range []impl.Val{num(0), num(-1), num(20000), hidden(0), hidden(-1)} {
			wantTransfer(t, "a number", plainSig(), absWith(a), impl.Ins{Op: op, H: 1}, impl.AbsRes{Err: impl.CkNotPtr})
		}
		for h := range int64(8) {
			for own := range int64(4) {
				x := impl.Ins{Op: op, D: 1, H: h}
				if isIndexOp(op) {
					x.B = 1
				}
				got := impl.Transfer(plainSig(), absWith(ptr(own, 0, 0), num(0)), x)
				if (got.Err == impl.CkHeap) != (own != h) {
					t.Errorf("op %d through a pointer to %d in %d: %+v", op, own, h, got)
				}
			}
		}
	}
	for op := int64(impl.OpLdbx); op <= impl.OpStqx; op++ {
		for _, b := range []impl.Val{num(-1), hidden(0), hidden(3), hidden(-1), ptr(1, 0, 0), ptr(0, 0, 0)} {
			wantTransfer(t, "an index", plainSig(), absWith(ptr(1, 0, 0), b), impl.Ins{Op: op, D: 2, B: 1, H: 1}, impl.AbsRes{Err: impl.CkIndex})
		}
	}
}

// The smallest and the largest offset, just within a heaplet and just without.
func TestTransferAccessBounds(t *testing.T) {
	for op := int64(impl.OpLdb); op <= impl.OpStqx; op++ {
		for _, size := range []int64{1, 7, 8, 9, 32, 4096} {
			last := size - widthOfOp(op)
			sig := plainSig()
			sig.Heaps[1].Size = size
			ask := func(lo, hi, more int64, want bool) {
				t.Helper()
				x := impl.Ins{Op: op, D: 3, A: 1, H: 1}
				index := num(5000)
				if isIndexOp(op) {
					x.B, index = 2, num(more)
				} else {
					x.Imm = more
				}
				if lo > hi || isIndexOp(op) && more < 0 {
					return
				}
				got := impl.Transfer(sig, absWith(num(0), ptr(1, lo, hi), index), x)
				if want && got.Err != impl.CkOk || !want && !sameAbsRes(got, impl.AbsRes{Err: impl.CkBounds}) {
					t.Errorf("op %d at %d..%d + %d of %d: %+v", op, lo, hi, more, size, got)
				}
			}
			ask(0, last, 0, last >= 0)
			ask(0, last+1, 0, false)
			ask(last, last, 0, last >= 0)
			ask(last+1, last+1, 0, false)
			ask(-1, last, 0, false)
			ask(-1, -1, 0, false)
			ask(0, 0, last, last >= 0)
			ask(0, 0, last+1, false)
			ask(0, 1, last-1, last >= 1)
			ask(0, 1, last, false)
			ask(-farthest, farthest, 0, false)
			ask(farthest, farthest, 1000000, false)
			ask(-farthest, -farthest, 1000000, false)
			if isIndexOp(op) {
				ask(0, 0, farthest, false)
				ask(-1, 0, 1, false) // the index may be 0
				ask(-farthest, -farthest, farthest, false)
			} else {
				ask(-5, -5, 5, last >= 0)
				ask(-5, last-5, 5, last >= 0)
				ask(-5, last-4, 5, false)
				ask(-6, last-5, 5, false)
				ask(0, 0, -1, false)
				ask(7, last+7, -7, last >= 0)
				ask(7, last+8, -7, false)
				ask(6, last+7, -7, false)
			}
		}
	}
}

// What is known behind a load or store that is let through, in each sort of heaplet.
func TestTransferAccessResult(t *testing.T) {
	for op := int64(impl.OpLdb); op <= impl.OpStqx; op++ {
		for _, heap := range []impl.HeapSig{{Size: 9}, {Size: 9, Secret: true}, {Size: 9, Write: true}, {Size: 9, Secret: true, Write: true}} {
			for _, d := range []impl.Val{num(3), num(-1), hidden(3), hidden(-1), ptr(0, 0, 0)} {
				sig := plainSig()
				sig.Heaps[2] = heap
				x := impl.Ins{Op: op, D: 3, A: 1, H: 2}
				if isIndexOp(op) {
					x.B = 2
				}
				before := absFlags(absWith(hidden(-1), ptr(2, 0, 1), num(0), d, hidden(4)), 2, 0)
				want := impl.AbsRes{Abs: cloneAbs(before)}
				switch {
				case !isStoreOp(op) && widthOfOp(op) == 1:
					want.Abs.Regs[3] = impl.Val{Secret: heap.Secret, Max: 255}
				case !isStoreOp(op):
					want.Abs.Regs[3] = impl.Val{Secret: heap.Secret, Max: -1}
				case !heap.Write:
					want = impl.AbsRes{Err: impl.CkReadOnly}
				case d.Secret && !heap.Secret:
					want = impl.AbsRes{Err: impl.CkSecretStore}
				}
				wantTransfer(t, "an access", sig, before, x, want)
			}
		}
	}
}

// Only D is written, even where it is A or B, and the secret of a register that is not used does not count.
func TestTransferRegisters(t *testing.T) {
	random := rand.New(rand.NewSource(45))
	for op := int64(1); op <= 28; op++ {
		for range 2000 {
			sig := randomSig(random)
			a := impl.Abs{Regs: randomVals(random, int64(len(sig.Heaps))), Z: random.Int63n(3), C: random.Int63n(3)}
			x := randomFor(random, sig, a, op)
			wantTransfer(t, "a random Abs", sig, a, x, slowTransfer(sig, a, x))
		}
	}
}

func TestTransferPairs(t *testing.T) {
	vals := someVals()
	for _, op := range []int64{3, 4, 5, 6, 7, 8, 9, 14, 15, 16, 17, 19, 20} {
		for _, a := range vals {
			for _, b := range vals {
				for _, flags := range [][2]int64{{1, 1}, {2, 1}, {1, 2}, {0, 2}, {2, 0}} {
					x := impl.Ins{Op: op, D: 5, A: 1, B: 2}
					if op == impl.OpCmp {
						x.D = 0
					}
					before := absFlags(absWith(num(4), a, b, hidden(5), num(9), hidden(-1)), flags[0], flags[1])
					wantTransfer(t, "a pair", plainSig(), before, x, slowTransfer(plainSig(), before, x))
				}
			}
		}
	}
	for _, op := range []int64{2, 10, 11, 12, 13, 18, 21, 22, 23, 24} {
		for _, a := range vals {
			for _, imm := range []int64{-1000000, -999999, -8, -5, -4, -1, 0, 1, 2, 3, 4, 7, 8, 9, 15, 16, 23, 24, 25, 32, 39, 40, 41, 62, 63, 64, 255, 256, 999999, 1000000} {
				for h := range int64(5) {
					x := impl.Ins{Op: op, D: 5, A: 1, Imm: imm}
					if op == impl.OpMovi {
						x.A = 0
					} else if op == impl.OpCmpi {
						x.D = 0
					}
					if op >= impl.OpLdb {
						x.H = h
					}
					before := absWith(num(4), a, num(8), hidden(5), num(9), hidden(-1))
					wantTransfer(t, "a number", plainSig(), before, x, slowTransfer(plainSig(), before, x))
				}
			}
		}
	}
}

func TestTransferNotValid(t *testing.T) {
	none := impl.AbsRes{Err: impl.CkNoSig}
	a := absWith(ptr(1, 0, 0))
	for _, x := range []impl.Ins{{}, halt, {Op: impl.OpJmp}, {Op: impl.OpJz}, {Op: impl.OpJnz}, {Op: impl.OpJc}, {Op: impl.OpJnc}, {Op: 35}, {Op: -1}, {Op: math.MaxInt64}, {Op: math.MinInt64}} {
		wantTransfer(t, "no such op", plainSig(), a, x, none)
	}
	eachBound(func(x impl.Ins) {
		got := impl.Transfer(plainSig(), a, x)
		if ok := impl.ValidIns(x) && x.Op <= 28; ok == (got.Err == impl.CkNoSig) || !ok && !sameAbsRes(got, none) {
			t.Errorf("%+v: %+v", x, got)
		}
	})
	// Nothing else is asked where something is not valid.
	wantTransfer(t, "a flag that is none", plainSig(), absFlags(a, 3, 0), impl.Ins{Op: impl.OpAdc}, none)
	wantTransfer(t, "no Abs", plainSig(), impl.Abs{}, impl.Ins{Op: impl.OpMov}, none)
	wantTransfer(t, "no sig", impl.Sig{}, a, impl.Ins{Op: impl.OpMov}, none)
	sig := plainSig()
	sig.Regs[7].Max = -2
	wantTransfer(t, "a sig with a Val that is not valid", sig, a, impl.Ins{Op: impl.OpMov}, none)
	sig = plainSig()
	sig.Heaps = sig.Heaps[:1]
	wantTransfer(t, "a pointer to a heaplet of another sig", sig, a, impl.Ins{Op: impl.OpMov}, none)
}

// Promise 8, held against the machine: the instruction doesn't fault, and what is known behind it is so.
func TestTransferHolds(t *testing.T) {
	random := rand.New(rand.NewSource(46))
	for op := int64(1); op <= 28; op++ {
		done := 0
		for try := 0; try < 40000 && done < 2000; try++ {
			sig := randomSig(random)
			a := impl.Abs{Regs: randomVals(random, int64(len(sig.Heaps))), Z: random.Int63n(3), C: random.Int63n(3)}
			x := randomFor(random, sig, a, op)
			got := impl.Transfer(sig, a, x)
			if got.Err != impl.CkOk {
				continue
			}
			done++
			wantHolds(t, sig, a, x, got.Abs, randomMachAs(random, sig, a))
		}
		if done < 1000 {
			t.Errorf("op %d is let through %d times only", op, done)
		}
	}
}

func wantHolds(t *testing.T, sig impl.Sig, a impl.Abs, x impl.Ins, after impl.Abs, m impl.Mach) {
	t.Helper()
	if !slowIsAs(a, m) || !impl.ValidMach(m) {
		t.Fatalf("%s is not as %+v", showMach(m), a)
	}
	if !slowAbs(sig, after) {
		t.Fatalf("%+v behind %+v is not valid", after, x)
	}
	end := stepOne(x, m)
	if end.Status != impl.Running || !slowIsAs(after, end) {
		t.Fatalf("%+v from %+v:\n%s goes to\n%s, not as %+v", x, a, showMach(m), showMach(end), after)
	}
	for i, h := range end.Heaps {
		if !h.Write && !slices.Equal(h.Data, m.Heaps[i].Data) {
			t.Fatalf("%+v writes heaplet %d", x, i)
		}
	}
}

// The same at the ends of each Val, for all pairs of them.
func TestTransferHoldsAtEnds(t *testing.T) {
	sig := plainSig()
	vals := someVals()
	for _, row := range opRows()[:28] {
		imms, seconds := []int64{0}, vals
		if slices.Contains([]byte(row.fields), 'I') {
			imms = []int64{-4, 0, 1, 23, 24, 40, 63}
		}
		if !slices.Contains([]byte(row.fields), 'B') {
			seconds = vals[:1]
		}
		for _, va := range vals {
			for _, vb := range seconds {
				for _, imm := range imms {
					x := impl.Ins{Op: row.op}
					for _, field := range []byte(row.fields) {
						x = setField(x, field, map[byte]int64{'D': 3, 'A': 1, 'B': 2, 'I': imm, 'H': va.H}[field])
					}
					a := absWith(num(-1), va, vb, num(9))
					if got := impl.Transfer(sig, a, x); got.Err == impl.CkOk {
						wantEnds(t, a, x, got.Abs)
					}
				}
			}
		}
	}
}

func wantEnds(t *testing.T, a impl.Abs, x impl.Ins, after impl.Abs) {
	t.Helper()
	m := machOf(plainSig())
	ends := func(v impl.Val) []uint64 {
		if v.Kind == impl.ValPtr {
			return []uint64{m.Heaps[v.H].Base + uint64(v.Lo), m.Heaps[v.H].Base + uint64(v.Hi)}
		}
		return []uint64{0, uint64(v.Max)}
	}
	m.HasZ, m.HasC = true, true
	for _, m.Regs[1] = range ends(a.Regs[1]) {
		for _, m.Regs[2] = range ends(a.Regs[2]) {
			for flags := range 2 {
				m.Z, m.C = flags == 1, flags == 1
				end := stepOne(x, m)
				if end.Status != impl.Running || !slowIsAs(after, end) {
					t.Fatalf("%+v from %+v:\n%s goes to\n%s, not as %+v", x, a, showMach(m), showMach(end), after)
				}
			}
		}
	}
}

func TestTransferKeepsArguments(t *testing.T) {
	random := rand.New(rand.NewSource(47))
	for op := int64(1); op <= 28; op++ {
		for range 200 {
			sig := randomSig(random)
			vals := append(make([]impl.Val, 0, 20), randomVals(random, int64(len(sig.Heaps)))...)
			a := impl.Abs{Regs: vals, Z: random.Int63n(3), C: random.Int63n(3)}
			oldSig, old := cloneSig(sig), cloneAbs(a)
			x := randomFor(random, sig, a, op)
			got := impl.Transfer(sig, a, x)
			again := cloneAbs(got.Abs)
			fill(got.Abs.Regs, hidden(99))
			if !sameSig(sig, oldSig) || !sameAbs(a, old) {
				t.Fatalf("%+v changes an argument", x)
			}
			if !slices.Equal(a.Regs[:20][8:], make([]impl.Val, 12)) {
				t.Fatalf("%+v writes behind an argument", x)
			}
			got = impl.Transfer(sig, a, x)
			fill(a.Regs, hidden(98))
			fill(sig.Regs, hidden(98))
			if !sameAbs(got.Abs, again) {
				t.Fatalf("%+v: the answer shares memory with an argument", x)
			}
		}
	}
}

// The example of the README.
func TestReadmeValues(t *testing.T) {
	sig := impl.Sig{
		Heaps: []impl.HeapSig{{Size: 16}, {Size: 32, Secret: true, Write: true}},
		Regs: []impl.Val{
			{Kind: impl.ValPtr, H: 0},
			{Kind: impl.ValPtr, H: 1},
			{Max: 15},
			{Secret: true, Max: 255},
			{Max: -1}, {Max: -1}, {Max: -1}, {Max: -1},
		},
	}
	known := impl.Abs{Regs: sig.Regs}
	load := impl.Transfer(sig, known, impl.Ins{Op: impl.OpLdbx, D: 4, A: 0, B: 2, H: 0})
	if load.Err != impl.CkOk || load.Abs.Regs[4] != num(255) {
		t.Errorf("%+v", load)
	}
	late := impl.Transfer(sig, known, impl.Ins{Op: impl.OpLdbx, D: 4, A: 1, B: 3, H: 1})
	if !sameAbsRes(late, impl.AbsRes{Err: impl.CkIndex}) {
		t.Errorf("%+v", late)
	}
	stmts := []impl.Stmt{
		{Kind: impl.SIns, Ins: impl.Ins{Op: impl.OpCmpi, A: 2, Imm: 3}},
		{Kind: impl.SIf, Cond: impl.CondC, Then: 1, Else: 1},
		{Kind: impl.SIns, Ins: impl.Ins{Op: impl.OpLdb, D: 4, A: 0}},
		{Kind: impl.SIns, Ins: impl.Ins{Op: impl.OpMov, D: 4, A: 3}},
	}
	got := impl.Check(sig, stmts)
	if got.Err != impl.CkOk || got.Abs.Regs[4] != hidden(255) {
		t.Errorf("%+v", got)
	}
	stmts[0].Ins.A = 3
	if wrong := impl.Check(sig, stmts); !sameCheck(wrong, impl.CheckRes{Err: impl.CkSecretFlag, At: 1}) {
		t.Errorf("%+v", wrong)
	}
}
