package tests

import (
	"math/big"
	"math/rand"
	"slices"
	"testing"

	"loop.example/s01319/impl"
)

// after is what a step makes of m when it goes on at the next instruction.
func after(m impl.Mach, change func(m *impl.Mach)) impl.Mach {
	m = cloneMach(m)
	m.Pc++
	change(&m)
	return m
}

// edges are operands at which sums, borrows, shifts and bit counts turn.
func edges() []uint64 {
	return []uint64{0, 1, 2, 3, 63, 64, 65, 255, 256, 1000000, 1<<32 - 1, 1 << 32, 1<<63 - 1, 1 << 63, 1<<63 + 1, top - 1000000, top - 1, top}
}

var modulus = new(big.Int).Lsh(big.NewInt(1), 64)

// wrapped is a whole number as a register holds it.
func wrapped(x *big.Int) uint64 { return new(big.Int).Mod(x, modulus).Uint64() }

func whole(v uint64) *big.Int { return new(big.Int).SetUint64(v) }

// wholeResult is what a plain op makes of two whole numbers.
func wholeResult(op int64, a, b *big.Int) *big.Int {
	r := new(big.Int)
	switch op {
	case impl.OpAdd, impl.OpAddi, impl.OpAdds:
		return r.Add(a, b)
	case impl.OpSub, impl.OpSubs, impl.OpCmp, impl.OpCmpi:
		return r.Sub(a, b)
	case impl.OpMul:
		return r.Mul(a, b)
	case impl.OpAnd, impl.OpAndi:
		return r.And(a, b)
	case impl.OpOr:
		return r.Or(a, b)
	case impl.OpXor:
		return r.Xor(a, b)
	case impl.OpShl:
		return r.Lsh(a, uint(b.Uint64()))
	case impl.OpShr:
		return r.Rsh(a, uint(b.Uint64()))
	case impl.OpDiv:
		if b.Sign() == 0 {
			return r
		}
		return r.Quo(a, b)
	case impl.OpMov:
		return r.Set(a)
	case impl.OpMovi:
		return r.Set(b)
	}
	panic("no plain op")
}

func TestPlainOpsOfRegisters(t *testing.T) {
	ops := []int64{impl.OpAdd, impl.OpSub, impl.OpMul, impl.OpAnd, impl.OpOr, impl.OpXor}
	for _, op := range ops {
		for _, a := range edges() {
			for _, b := range edges() {
				m := withRegs(plainMach(), 11, a, b)
				want := after(m, func(m *impl.Mach) { m.Regs[5] = wrapped(wholeResult(op, whole(a), whole(b))) })
				wantMach(t, "plain op", stepOne(impl.Ins{Op: op, D: 5, A: 1, B: 2}, m), want)
			}
		}
	}
}

func TestPlainOpsOfNumbers(t *testing.T) {
	signed := []int64{-1000000, -65, -1, 0, 1, 63, 1000000}
	rows := map[int64][]int64{
		impl.OpMovi: signed,
		impl.OpAddi: signed,
		impl.OpAndi: {0, 1, 12, 255, 1000000},
		impl.OpShl:  {0, 1, 8, 31, 32, 62, 63},
		impl.OpShr:  {0, 1, 8, 31, 32, 62, 63},
	}
	for op, imms := range rows {
		for _, imm := range imms {
			for _, a := range edges() {
				m := withRegs(plainMach(), 11, a)
				x := impl.Ins{Op: op, D: 5, A: 1, Imm: imm}
				if op == impl.OpMovi {
					x.A = 0
				}
				want := after(m, func(m *impl.Mach) { m.Regs[5] = wrapped(wholeResult(op, whole(a), big.NewInt(imm))) })
				wantMach(t, "op with a number", stepOne(x, m), want)
			}
		}
	}
}

func TestMovAndHalt(t *testing.T) {
	m := plainMach()
	wantMach(t, "mov", stepOne(impl.Ins{Op: impl.OpMov, D: 3, A: 7}, m), after(m, func(m *impl.Mach) { m.Regs[3] = top }))
	want := plainMach()
	want.Status = impl.Halted
	wantMach(t, "halt", stepOne(halt, m), want)
	m.Pc, want.Pc = 2, 2
	wantMach(t, "halt further on", stepOne(impl.Ins{Op: impl.OpMov}, m), want)
}

func TestDivision(t *testing.T) {
	rows := []struct{ a, b, want, bitsA, bitsB uint64 }{
		{7, 2, 3, 3, 2}, {8, 2, 4, 4, 2}, {7, 0, 0, 3, 0}, {0, 7, 0, 0, 3}, {0, 0, 0, 0, 0}, {1, 1, 1, 1, 1},
		{top, 1, top, 64, 1}, {top, top, 1, 64, 64}, {top - 1, top, 0, 64, 64}, {1 << 63, 3, 3074457345618258602, 64, 2}, {1<<63 - 1, 1 << 62, 1, 63, 63}, {top, 0, 0, 64, 0},
	}
	for _, r := range rows {
		m := withRegs(plainMach(), 11, r.a, r.b)
		want := after(m, func(m *impl.Mach) {
			m.Regs[5] = r.want
			m.Obs = []impl.Obs{{Kind: impl.ObsTime, Val: r.bitsA*65 + r.bitsB}}
		})
		wantMach(t, "division", stepOne(impl.Ins{Op: impl.OpDiv, D: 5, A: 1, B: 2}, m), want)
	}
}

func TestDivisionIntoItsOperands(t *testing.T) {
	for _, b := range []uint64{0, 3} {
		m := withRegs(plainMach(), 11, 100, b)
		got := stepOne(impl.Ins{Op: impl.OpDiv, D: 2, A: 1, B: 2}, m)
		if want := []uint64{0, 33}[b/3]; got.Regs[2] != want || got.Regs[1] != 100 {
			t.Errorf("100 / %d: %v", b, got.Regs)
		}
	}
	m := withRegs(plainMach(), 11, 100, 3)
	if got := stepOne(impl.Ins{Op: impl.OpDiv, D: 1, A: 1, B: 2}, m); got.Regs[1] != 33 || got.Obs[0].Val != 7*65+2 {
		t.Errorf("100 / 3 into A: %+v", got)
	}
}

// flagged is m with the flags of a whole result: carry when it left the range of a register.
func flagged(m *impl.Mach, result *big.Int) {
	m.Z, m.HasZ = wrapped(result) == 0, true
	m.C, m.HasC = result.Sign() < 0 || result.Cmp(modulus) >= 0, true
}

func TestFlagOps(t *testing.T) {
	for _, start := range []impl.Mach{plainMach(), withFlags(true, true), withFlags(false, false)} {
		for _, op := range []int64{impl.OpAdds, impl.OpSubs, impl.OpCmp} {
			for _, a := range edges() {
				for _, b := range edges() {
					m := withRegs(cloneMach(start), 11, a, b)
					x := impl.Ins{Op: op, D: 5, A: 1, B: 2}
					if op == impl.OpCmp {
						x.D = 0
					}
					want := after(m, func(m *impl.Mach) {
						result := wholeResult(op, whole(a), whole(b))
						flagged(m, result)
						if op != impl.OpCmp {
							m.Regs[5] = wrapped(result)
						}
					})
					wantMach(t, "op with flags", stepOne(x, m), want)
				}
			}
		}
	}
}

func TestCompareWithNumber(t *testing.T) {
	for _, imm := range []int64{-1000000, -1, 0, 1, 255, 1000000} {
		for _, a := range edges() {
			m := withRegs(plainMach(), 11, a)
			want := after(m, func(m *impl.Mach) {
				flagged(m, new(big.Int).Sub(whole(a), whole(wrapped(big.NewInt(imm)))))
			})
			wantMach(t, "cmpi", stepOne(impl.Ins{Op: impl.OpCmpi, A: 1, Imm: imm}, m), want)
		}
	}
}

func TestAddWithCarry(t *testing.T) {
	for _, z := range []bool{false, true} {
		for carry := range int64(2) {
			for _, a := range edges() {
				for _, b := range edges() {
					m := withRegs(withFlags(z, carry == 1), 11, a, b)
					want := after(m, func(m *impl.Mach) {
						result := new(big.Int).Add(whole(a), whole(b))
						result.Add(result, big.NewInt(carry))
						flagged(m, result)
						m.Regs[5] = wrapped(result)
					})
					wantMach(t, "adc", stepOne(impl.Ins{Op: impl.OpAdc, D: 5, A: 1, B: 2}, m), want)
				}
			}
		}
	}
}

// A number of 128 bits is added by adds and adc: the carry is that of the step before.
func TestCarryChain(t *testing.T) {
	prog := []impl.Ins{{Op: impl.OpAdds, D: 0, A: 0, B: 2}, {Op: impl.OpAdc, D: 1, A: 1, B: 3}, {Op: impl.OpAdc, D: 4, A: 4, B: 5}, halt}
	m := withRegs(plainMach(), top, top, 1, 0, 0, 0)
	got := impl.RunMach(prog, m, 4)
	if !slices.Equal(got.Regs[:6], []uint64{0, 0, 1, 0, 1, 0}) || got.C || got.Z {
		t.Errorf("a carry through three words: %+v", got)
	}
	got = impl.RunMach(prog, withRegs(plainMach(), top, top, 1, top, 7, 8), 4)
	if !slices.Equal(got.Regs[:6], []uint64{0, top, 1, top, 16, 8}) {
		t.Errorf("a carry onto the largest number: %+v", got)
	}
}

func TestSelects(t *testing.T) {
	for _, op := range []int64{impl.OpSelz, impl.OpSelc} {
		for _, z := range []bool{false, true} {
			for _, c := range []bool{false, true} {
				m := withFlags(z, c)
				flag := op == impl.OpSelz && z || op == impl.OpSelc && c
				want := after(m, func(m *impl.Mach) {
					m.Regs[5] = 7
					if flag {
						m.Regs[5] = 5
					}
				})
				wantMach(t, "select", stepOne(impl.Ins{Op: op, D: 5, A: 3, B: 4}, m), want)
			}
		}
	}
}

func TestJumps(t *testing.T) {
	m := plainMach()
	for target := range int64(4) {
		want := cloneMach(m)
		want.Pc = target
		wantMach(t, "jmp", stepOne(impl.Ins{Op: impl.OpJmp, Imm: target}, m), want)
	}
	for _, z := range []bool{false, true} {
		for _, c := range []bool{false, true} {
			jumps := map[int64]bool{impl.OpJz: z, impl.OpJnz: !z, impl.OpJc: c, impl.OpJnc: !c}
			for op, jump := range jumps {
				m := withFlags(z, c)
				want := after(m, func(m *impl.Mach) {
					m.Obs = []impl.Obs{{Kind: impl.ObsBranch}}
					if jump {
						m.Obs[0].Val = 1
						m.Pc = 3
					}
				})
				wantMach(t, "conditional jump", stepOne(impl.Ins{Op: op, Imm: 3}, m), want)
			}
		}
	}
}

// A jump to the next instruction is seen as made all the same.
func TestJumpToNext(t *testing.T) {
	got := stepOne(impl.Ins{Op: impl.OpJz, Imm: 1}, withFlags(true, false))
	if got.Pc != 1 || !slices.Equal(got.Obs, []impl.Obs{{Kind: impl.ObsBranch, Val: 1}}) {
		t.Errorf("a jump to the next: %+v", got)
	}
}

func TestUndefinedFlags(t *testing.T) {
	needsZ := []int64{impl.OpSelz, impl.OpJz, impl.OpJnz}
	needsC := []int64{impl.OpAdc, impl.OpSelc, impl.OpJc, impl.OpJnc}
	for _, op := range append(slices.Clone(needsZ), needsC...) {
		x := impl.Ins{Op: op}
		if op < impl.OpJmp {
			x = impl.Ins{Op: op, D: 5, A: 3, B: 4}
		}
		for _, hasZ := range []bool{false, true} {
			for _, hasC := range []bool{false, true} {
				m := plainMach()
				m.HasZ, m.Z, m.HasC, m.C = hasZ, hasZ, hasC, hasC
				m.Obs = []impl.Obs{{Kind: impl.ObsTime, Val: 9}}
				got := stepOne(x, m)
				if slices.Contains(needsZ, op) && !hasZ || slices.Contains(needsC, op) && !hasC {
					m.Status = impl.Faulted
					wantMach(t, "an undefined flag", got, m)
				} else if got.Status != impl.Running {
					t.Errorf("op %d faults with its flag defined", op)
				}
			}
		}
	}
}

// One flag alone may be defined; an op that sets flags defines both.
func TestFlagsBecomeDefined(t *testing.T) {
	m := plainMach()
	m.HasZ, m.Z = true, true
	for _, x := range []impl.Ins{{Op: impl.OpAdds}, {Op: impl.OpSubs}, {Op: impl.OpCmp}, {Op: impl.OpCmpi}} {
		if got := stepOne(x, m); !got.HasZ || !got.HasC {
			t.Errorf("op %d: %+v", x.Op, got)
		}
	}
	if got := stepOne(impl.Ins{Op: impl.OpAdd, D: 5, A: 3, B: 4}, m); !got.HasZ || !got.Z || got.HasC {
		t.Errorf("add touches flags: %+v", got)
	}
}

// Each field names its register, whichever it is, also when they are the same.
func TestEveryRegister(t *testing.T) {
	random := rand.New(rand.NewSource(1))
	for range 2000 {
		m := plainMach()
		for i := range m.Regs {
			m.Regs[i] = random.Uint64()
		}
		x := impl.Ins{Op: impl.OpSub, D: random.Int63n(8), A: random.Int63n(8), B: random.Int63n(8)}
		want := after(m, func(n *impl.Mach) { n.Regs[x.D] = m.Regs[x.A] - m.Regs[x.B] })
		wantMach(t, "sub", stepOne(x, m), want)
	}
}
