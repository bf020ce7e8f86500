package tests

import (
	"math/big"
	"math/rand"
	"slices"
	"testing"

	"loop.example/s01319/impl"
)

const farthest = 1 << 40

func num(limit int64) impl.Val { return impl.Val{Max: limit} }

func hidden(limit int64) impl.Val { return impl.Val{Secret: true, Max: limit} }

func ptr(h, lo, hi int64) impl.Val { return impl.Val{Kind: impl.ValPtr, H: h, Lo: lo, Hi: hi} }

// plainSig has a public heaplet to read, a secret one to write, a public one to write and a secret one to read; all registers are public zeros.
func plainSig() impl.Sig {
	return impl.Sig{
		Heaps: []impl.HeapSig{{Size: 16}, {Size: 32, Secret: true, Write: true}, {Size: 8, Write: true}, {Size: 9, Secret: true}},
		Regs:  make([]impl.Val, 8),
	}
}

func sigWith(vals ...impl.Val) impl.Sig {
	sig := plainSig()
	copy(sig.Regs, vals)
	return sig
}

// absWith has the given Vals for the first registers, and both flags public.
func absWith(vals ...impl.Val) impl.Abs {
	return impl.Abs{Regs: sigWith(vals...).Regs, Z: impl.FlagPublic, C: impl.FlagPublic}
}

func absFlags(a impl.Abs, z, c int64) impl.Abs {
	a.Z, a.C = z, c
	return a
}

// machOf is a machine that fits plainSig with all registers zero.
func machOf(sig impl.Sig) impl.Mach {
	m := impl.Mach{Regs: make([]uint64, 8)}
	for i, h := range sig.Heaps {
		m.Heaps = append(m.Heaps, impl.Heap{Base: uint64(1+i) * 10000, Write: h.Write, Data: make([]byte, h.Size)})
	}
	return m
}

func cloneSig(sig impl.Sig) impl.Sig {
	return impl.Sig{Heaps: slices.Clone(sig.Heaps), Regs: slices.Clone(sig.Regs)}
}

func cloneAbs(a impl.Abs) impl.Abs {
	a.Regs = slices.Clone(a.Regs)
	return a
}

func sameSig(a, b impl.Sig) bool {
	return slices.Equal(a.Heaps, b.Heaps) && slices.Equal(a.Regs, b.Regs)
}

func sameAbs(a, b impl.Abs) bool {
	return slices.Equal(a.Regs, b.Regs) && a.Z == b.Z && a.C == b.C
}

func sameAbsRes(a, b impl.AbsRes) bool { return a.Err == b.Err && sameAbs(a.Abs, b.Abs) }

func wantTransfer(t *testing.T, name string, sig impl.Sig, a impl.Abs, x impl.Ins, want impl.AbsRes) {
	t.Helper()
	if got := impl.Transfer(sig, a, x); !sameAbsRes(got, want) {
		t.Errorf("%s: %+v from %+v:\n got %+v\nwant %+v", name, x, a, got, want)
	}
}

// slowVal says whether a Val is valid, field by field.
func slowVal(v impl.Val, heaps int) bool {
	if v.Kind == 0 {
		return v.Max >= -1 && v.Max <= farthest && v.H == 0 && v.Lo == 0 && v.Hi == 0
	}
	return v.Kind == 1 && !v.Secret && v.Max == 0 && v.H >= 0 && v.H <= int64(heaps)-1 &&
		v.Lo >= -farthest && v.Hi >= v.Lo && v.Hi <= farthest
}

func slowVals(vals []impl.Val, heaps int) bool {
	for _, v := range vals {
		if !slowVal(v, heaps) {
			return false
		}
	}
	return len(vals) == 8
}

func slowSig(sig impl.Sig) bool {
	for _, h := range sig.Heaps {
		if h.Size < 1 || h.Size > 4096 {
			return false
		}
	}
	return len(sig.Heaps) <= 8 && slowVals(sig.Regs, len(sig.Heaps))
}

func slowAbs(sig impl.Sig, a impl.Abs) bool {
	return slowSig(sig) && slowVals(a.Regs, len(sig.Heaps)) && a.Z >= 0 && a.Z <= 2 && a.C >= 0 && a.C <= 2
}

// slowIs says by whole numbers whether a register is as a Val says.
func slowIs(v impl.Val, reg uint64, heaps []impl.Heap) bool {
	if v.Kind == impl.ValNum {
		return v.Max == -1 || whole(reg).Cmp(big.NewInt(v.Max)) <= 0
	}
	base := whole(heaps[v.H].Base)
	for _, turn := range []*big.Int{new(big.Int), modulus, new(big.Int).Neg(modulus)} {
		away := new(big.Int).Sub(new(big.Int).Add(whole(reg), turn), base)
		if away.Cmp(big.NewInt(v.Lo)) >= 0 && away.Cmp(big.NewInt(v.Hi)) <= 0 {
			return true
		}
	}
	return false
}

// slowIsAs says whether a machine is as an Abs says.
func slowIsAs(a impl.Abs, m impl.Mach) bool {
	for i, v := range a.Regs {
		if !slowIs(v, m.Regs[i], m.Heaps) {
			return false
		}
	}
	return (a.Z == impl.FlagNone || m.HasZ) && (a.C == impl.FlagNone || m.HasC)
}

func slowJoin(a, b impl.Val) impl.Val {
	var v impl.Val
	if a.Kind == 1 && b.Kind == 1 && a.H == b.H {
		v.Kind, v.H, v.Lo, v.Hi = 1, a.H, a.Lo, a.Hi
		if b.Lo < a.Lo {
			v.Lo = b.Lo
		}
		if b.Hi > a.Hi {
			v.Hi = b.Hi
		}
		return v
	}
	if a.Secret || b.Secret {
		v.Secret = true
	}
	v.Max = -1
	if a.Kind == 0 && b.Kind == 0 && a.Max != -1 && b.Max != -1 {
		v.Max = a.Max
		if b.Max > a.Max {
			v.Max = b.Max
		}
	}
	return v
}

// slowLimit is max(v) as a whole number, nil where none is known.
func slowLimit(v impl.Val) *big.Int {
	if v.Kind == 1 || v.Max < 0 {
		return nil
	}
	return big.NewInt(v.Max)
}

// slowNum is the document's num.
func slowNum(secret bool, m *big.Int) impl.Val {
	if m == nil || m.Cmp(big.NewInt(farthest)) > 0 {
		return impl.Val{Secret: secret, Max: -1}
	}
	return impl.Val{Secret: secret, Max: m.Int64()}
}

// slowTransfer is a second reading of the document, in whole numbers.
func slowTransfer(sig impl.Sig, a impl.Abs, x impl.Ins) impl.AbsRes {
	if !slowAbs(sig, a) || !impl.ValidIns(x) || x.Op > 28 {
		return impl.AbsRes{Err: impl.CkNoSig}
	}
	if x.Op >= impl.OpLdb {
		return slowAccess(sig, a, x)
	}
	out := cloneAbs(a)
	va, vb := a.Regs[x.A], a.Regs[x.B]
	usesA := x.Op != impl.OpMovi
	usesB := !slices.Contains([]int64{1, 2, 10, 11, 12, 13, 18}, x.Op)
	secret := usesA && va.Secret || usesB && vb.Secret
	switch x.Op {
	case impl.OpAdc, impl.OpSelc:
		if a.C == 0 {
			return impl.AbsRes{Err: impl.CkFlag}
		}
		secret = secret || x.Op == impl.OpAdc && a.C == impl.FlagSecret
	case impl.OpSelz:
		if a.Z == 0 {
			return impl.AbsRes{Err: impl.CkFlag}
		}
	case impl.OpDiv:
		if secret {
			return impl.AbsRes{Err: impl.CkTiming}
		}
	}
	if x.Op != impl.OpCmp && x.Op != impl.OpCmpi {
		out.Regs[x.D] = slowValue(a, x, secret)
	}
	if slices.Contains([]int64{14, 15, 16, 17, 18}, x.Op) {
		out.Z, out.C = 1, 1
		if secret {
			out.Z, out.C = 2, 2
		}
	}
	return impl.AbsRes{Abs: out}
}

// slowValue is what is known of D behind an instruction that is no load or store.
func slowValue(a impl.Abs, x impl.Ins, secret bool) impl.Val {
	va, vb := a.Regs[x.A], a.Regs[x.B]
	switch x.Op {
	case impl.OpMov:
		return va
	case impl.OpMovi:
		if x.Imm < 0 {
			return num(-1)
		}
		return num(x.Imm)
	case impl.OpSelz, impl.OpSelc:
		v := slowJoin(va, vb)
		if x.Op == impl.OpSelz && a.Z == 2 || x.Op == impl.OpSelc && a.C == 2 {
			if v.Kind == 1 {
				return hidden(-1)
			}
			v.Secret = true
		}
		return v
	case impl.OpAdd, impl.OpAdds:
		for _, pair := range [][2]impl.Val{{va, vb}, {vb, va}} {
			p, n := pair[0], pair[1]
			if p.Kind == 1 && n.Kind == 0 && !n.Secret && n.Max >= 0 && p.Hi+n.Max <= farthest {
				return ptr(p.H, p.Lo, p.Hi+n.Max)
			}
		}
	case impl.OpAddi:
		if va.Kind == 1 {
			lo, hi := va.Lo+x.Imm, va.Hi+x.Imm
			if min(lo, hi) >= -farthest && max(lo, hi) <= farthest {
				return ptr(va.H, lo, hi)
			}
			return num(-1)
		}
	}
	return slowNum(secret, slowBound(x, slowLimit(va), slowLimit(vb)))
}

// slowBound is the m of the document's num, nil for -1.
func slowBound(x impl.Ins, a, b *big.Int) *big.Int {
	imm, one, z := big.NewInt(x.Imm), big.NewInt(1), new(big.Int)
	switch x.Op {
	case impl.OpAdd, impl.OpAdds, impl.OpAdc, impl.OpMul, impl.OpOr, impl.OpXor:
		if a == nil || b == nil {
			return nil
		}
	}
	switch x.Op {
	case impl.OpAdd, impl.OpAdds:
		return z.Add(a, b)
	case impl.OpAdc:
		return z.Add(z.Add(a, b), one)
	case impl.OpMul:
		return z.Mul(a, b)
	case impl.OpOr, impl.OpXor:
		for k := uint(0); ; k++ {
			z.Sub(z.Lsh(one, k), one)
			if z.Cmp(a) >= 0 && z.Cmp(b) >= 0 {
				return z
			}
		}
	case impl.OpAnd, impl.OpAndi:
		if x.Op == impl.OpAndi {
			b = imm
		}
		if a == nil || b != nil && b.Cmp(a) < 0 {
			return b
		}
		return a
	case impl.OpDiv:
		return a
	case impl.OpAddi:
		if a != nil && x.Imm >= 0 {
			return z.Add(a, imm)
		}
	case impl.OpShl:
		if a != nil {
			return z.Lsh(a, uint(x.Imm))
		}
	case impl.OpShr:
		if a != nil {
			return z.Rsh(a, uint(x.Imm))
		}
		if x.Imm >= 24 {
			return z.Sub(z.Lsh(one, uint(64-x.Imm)), one)
		}
	}
	return nil
}

func slowAccess(sig impl.Sig, a impl.Abs, x impl.Ins) impl.AbsRes {
	wrong := func(err int64) impl.AbsRes { return impl.AbsRes{Err: err} }
	p, index, out := a.Regs[x.A], a.Regs[x.B], cloneAbs(a)
	width := int64(8)
	if x.Op%2 == 1 {
		width = 1
	}
	if p.Kind != 1 {
		return wrong(impl.CkNotPtr)
	}
	if p.H != x.H {
		return wrong(impl.CkHeap)
	}
	low, high := p.Lo+x.Imm, p.Hi+x.Imm
	if x.Op >= 25 {
		if index.Kind != 0 || index.Secret || index.Max < 0 {
			return wrong(impl.CkIndex)
		}
		low, high = p.Lo, p.Hi+index.Max
	}
	heap := sig.Heaps[x.H]
	if low < 0 || high+width > heap.Size {
		return wrong(impl.CkBounds)
	}
	if x.Op == 21 || x.Op == 22 || x.Op == 25 || x.Op == 26 {
		out.Regs[x.D] = impl.Val{Secret: heap.Secret, Max: -1}
		if width == 1 {
			out.Regs[x.D].Max = 255
		}
		return impl.AbsRes{Abs: out}
	}
	if !heap.Write {
		return wrong(impl.CkReadOnly)
	}
	if a.Regs[x.D].Secret && !heap.Secret {
		return wrong(impl.CkSecretStore)
	}
	return impl.AbsRes{Abs: out}
}

// someVals are numbers and pointers at the edges of what is asked of them, for plainSig.
func someVals() []impl.Val {
	var vals []impl.Val
	for _, limit := range []int64{-1, 0, 1, 2, 3, 4, 7, 8, 255, 256, 1 << 20, 1<<20 + 1, 1<<39 - 1, 1 << 39, 1<<39 + 1, farthest - 8, farthest - 1, farthest} {
		vals = append(vals, num(limit), hidden(limit))
	}
	return append(vals, ptr(0, 0, 0), ptr(1, 0, 0), ptr(1, -3, 5), ptr(1, 4, 8), ptr(2, 0, 7), ptr(3, 1, 1),
		ptr(0, farthest, farthest), ptr(0, -farthest, farthest), ptr(2, -farthest, -farthest), ptr(1, farthest-8, farthest-7), ptr(1, -farthest+1, 9))
}

// randomVal is often one of the edges, else small.
func randomVal(random *rand.Rand, heaps int64) impl.Val {
	if heaps > 0 && random.Intn(3) == 0 {
		lo := random.Int63n(20) - 4
		if random.Intn(8) == 0 {
			lo = []int64{-farthest, -farthest + 3, farthest - 9, farthest - 1000004}[random.Intn(4)]
		}
		return ptr(random.Int63n(heaps), lo, lo+random.Int63n(9))
	}
	limits := []int64{-1, 0, 1, 2, 7, 8, 15, 255, 256, 65535, 1 << 39, farthest - 1, farthest, random.Int63n(40), random.Int63n(farthest)}
	return impl.Val{Secret: random.Intn(3) == 0, Max: limits[random.Intn(len(limits))]}
}

func randomSig(random *rand.Rand) impl.Sig {
	var sig impl.Sig
	for range random.Intn(5) {
		sig.Heaps = append(sig.Heaps, impl.HeapSig{Size: 1 + random.Int63n(30), Secret: random.Intn(2) == 0, Write: random.Intn(3) > 0})
	}
	sig.Regs = randomVals(random, int64(len(sig.Heaps)))
	return sig
}

func randomVals(random *rand.Rand, heaps int64) []impl.Val {
	vals := make([]impl.Val, 8)
	for i := range vals {
		vals[i] = randomVal(random, heaps)
	}
	return vals
}

// randomIsAs is a register as a Val says, often at one of its ends.
func randomIsAs(random *rand.Rand, v impl.Val, heaps []impl.Heap) uint64 {
	pick := random.Intn(4)
	if v.Kind == impl.ValPtr {
		return heaps[v.H].Base + uint64(v.Lo+[]int64{0, v.Hi - v.Lo, random.Int63n(v.Hi - v.Lo + 1), 0}[pick])
	}
	limit := uint64(v.Max) // -1 is the greatest of all
	return []uint64{0, limit, limit - min(limit, 1), random.Uint64() % max(limit, 1)}[pick]
}

// randomMachAs is a running machine with sig's heaplets that is as a says.
func randomMachAs(random *rand.Rand, sig impl.Sig, a impl.Abs) impl.Mach {
	m := impl.Mach{Regs: make([]uint64, 8)}
	start := []uint64{0, 100, 1 << 40, 1<<63 - 50, top - 8*4200}[random.Intn(5)]
	for _, h := range sig.Heaps {
		data := make([]byte, h.Size)
		random.Read(data)
		m.Heaps = append(m.Heaps, impl.Heap{Base: start, Write: h.Write, Data: data})
		start += uint64(h.Size) + uint64(random.Intn(3))
	}
	if last := len(m.Heaps) - 1; last >= 0 && random.Intn(4) == 0 {
		m.Heaps[last].Base = top - uint64(sig.Heaps[last].Size)
	}
	for i, v := range a.Regs {
		m.Regs[i] = randomIsAs(random, v, m.Heaps)
	}
	m.HasZ = a.Z != impl.FlagNone || random.Intn(2) == 0
	m.HasC = a.C != impl.FlagNone || random.Intn(2) == 0
	m.Z = m.HasZ && random.Intn(2) == 0
	m.C = m.HasC && random.Intn(2) == 0
	return m
}

// randomFor is an instruction that often is let through where a is known: a load or store goes mostly through a pointer.
func randomFor(random *rand.Rand, sig impl.Sig, a impl.Abs, op int64) impl.Ins {
	x := impl.Ins{Op: op}
	for _, row := range opRows() {
		if row.op != op {
			continue
		}
		for _, field := range []byte(row.fields) {
			low, high := row.bounds(field)
			v := low + random.Int63n(high-low+1)
			if field == 'I' && random.Intn(2) == 0 {
				v = min(max(random.Int63n(40)-8, low), high)
			}
			x = setField(x, field, v)
		}
	}
	if op >= impl.OpLdb && random.Intn(10) > 0 {
		for try := 0; try < 10 && a.Regs[x.A].Kind != impl.ValPtr; try++ {
			x.A = random.Int63n(8)
		}
		x.H = a.Regs[x.A].H
		for try := 0; try < 10 && op >= impl.OpLdbx && (a.Regs[x.B].Kind == impl.ValPtr || uint64(a.Regs[x.B].Max) > 15 || a.Regs[x.B].Secret); try++ {
			x.B = random.Int63n(8)
		}
		if op < impl.OpLdbx {
			x.Imm = random.Int63n(30) - max(min(a.Regs[x.A].Lo, 1000), -1000) - 1
		}
	}
	return x
}
