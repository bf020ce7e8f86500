package tests

import (
	"slices"
	"testing"

	"loop.example/s01319/impl"
)

// access is a load or store op and what the table says of it.
type access struct {
	op      int64
	width   int64
	store   bool
	indexed bool
}

func accesses() []access {
	return []access{
		{impl.OpLdb, 1, false, false}, {impl.OpLdq, 8, false, false}, {impl.OpStb, 1, true, false}, {impl.OpStq, 8, true, false},
		{impl.OpLdbx, 1, false, true}, {impl.OpLdqx, 8, false, true}, {impl.OpStbx, 1, true, true}, {impl.OpStqx, 8, true, true},
	}
}

// reach makes the access of heaplet h at the address r6 + away; its register D is r7.
func (a access) reach(m impl.Mach, h, away int64) (impl.Ins, impl.Mach) {
	x := impl.Ins{Op: a.op, D: 7, A: 6, Imm: away, H: h}
	if a.indexed {
		x.Imm, x.B = 0, 5
		m.Regs[5] = uint64(away)
	}
	return x, m
}

// wantAccess holds a step against the access done by hand: offset is where it begins in heaplet h, ok whether it may be done.
func wantAccess(t *testing.T, a access, m impl.Mach, h, away int64, offset int64, ok bool) {
	t.Helper()
	x, m := a.reach(cloneMach(m), h, away)
	m.Regs[7] = 0x8877665544332211
	want := cloneMach(m)
	want.Obs = append(want.Obs, impl.Obs{Kind: impl.ObsAddr, Val: m.Regs[6] + uint64(away)})
	if !ok || a.store && !m.Heaps[h].Write {
		want.Status = impl.Faulted
		wantMach(t, "an access that faults", stepOne(x, m), want)
		return
	}
	want.Pc++
	data := want.Heaps[h].Data[offset : offset+a.width]
	if a.store {
		copy(data, []byte{0x11, 0x22, 0x33, 0x44, 0x55, 0x66, 0x77, 0x88})
	} else {
		want.Regs[7] = 0
		for i := range data {
			want.Regs[7] = want.Regs[7]<<8 | uint64(data[len(data)-1-i])
		}
	}
	wantMach(t, "an access", stepOne(x, m), want)
}

// Every offset from well before each heaplet to well behind it.
func TestAccessOffsets(t *testing.T) {
	for _, a := range accesses() {
		for h, heap := range plainMach().Heaps {
			size := int64(len(heap.Data))
			for offset := int64(-20); offset <= size+20; offset++ {
				m := plainMach()
				m.Regs[6] = heap.Base
				wantAccess(t, a, m, int64(h), offset, offset, offset >= 0 && offset+a.width <= size)
			}
		}
	}
}

func TestAccessFirstAndLast(t *testing.T) {
	m := plainMach()
	rows := []struct {
		x    impl.Ins
		want uint64
	}{
		{impl.Ins{Op: impl.OpLdb, D: 5, A: 0}, 1},
		{impl.Ins{Op: impl.OpLdb, D: 5, A: 0, Imm: 15}, 0xf0},
		{impl.Ins{Op: impl.OpLdq, D: 5, A: 0}, 0x0807060504030201},
		{impl.Ins{Op: impl.OpLdq, D: 5, A: 0, Imm: 8}, 0xf00f0e0d0c0b0a09},
		{impl.Ins{Op: impl.OpLdq, D: 5, A: 1, Imm: 1, H: 1}, 0x1c1b1a1918171615},
		{impl.Ins{Op: impl.OpLdbx, D: 5, A: 2, B: 5, H: 2}, 30},
		{impl.Ins{Op: impl.OpLdqx, D: 5, A: 0, B: 3}, 0x0d0c0b0a09080706},
	}
	for i, r := range rows {
		if got := stepOne(r.x, m); got.Status != impl.Running || got.Regs[5] != r.want {
			t.Errorf("row %d: %+v", i, got)
		}
	}
}

// A heaplet just as wide as the access has one place for it.
func TestAccessWholeHeaplet(t *testing.T) {
	for _, a := range accesses() {
		m := plainMach()
		m.Heaps = []impl.Heap{{Base: 100, Write: true, Data: []byte{9, 8, 7, 6, 5, 4, 3, 2}[:a.width]}}
		m.Regs[6] = 100
		for offset := int64(-1); offset <= 1; offset++ {
			wantAccess(t, a, m, 0, offset, offset, offset == 0)
		}
	}
}

// The largest heaplet, and an Imm as far as it goes.
func TestAccessLargest(t *testing.T) {
	m := plainMach()
	m.Heaps = []impl.Heap{{Base: 5000000, Write: true, Data: make([]byte, 4096)}}
	m.Heaps[0].Data[0], m.Heaps[0].Data[4095] = 1, 2
	for _, a := range accesses() {
		for _, away := range []int64{-1000000, 1000000} {
			for _, offset := range []int64{-1, 0, 4096 - a.width, 4097 - a.width} {
				m.Regs[6] = m.Heaps[0].Base + uint64(offset) - uint64(away)
				wantAccess(t, a, m, 0, away, offset, offset >= 0 && offset+a.width <= 4096)
			}
		}
	}
}

// The sum of address and number wraps; the bytes of the access do not.
func TestAccessWraps(t *testing.T) {
	m := plainMach()
	m.Heaps[0].Base, m.Heaps[1].Base = 0, top-9
	for _, a := range accesses() {
		m.Regs[6] = top
		wantAccess(t, a, m, 0, 1, 0, true)
		wantAccess(t, a, m, 0, 5, 4, true)
		wantAccess(t, a, m, 0, 0, 0, false)
		m.Regs[6] = 3
		wantAccess(t, a, m, 0, -3, 0, true)
		wantAccess(t, a, m, 0, -4, 0, false)
		for last := int64(-1); last >= -20; last-- {
			m.Regs[6] = 0
			wantAccess(t, a, m, 0, last, 0, false)
		}
	}
}

func TestAccessAtTheTop(t *testing.T) {
	m := plainMach()
	m.Heaps = []impl.Heap{{Base: 0, Write: true, Data: make([]byte, 16)}, {Base: top - 10, Write: true, Data: []byte{1, 2, 3, 4, 5, 6, 7, 8, 9, 10}}}
	if !impl.ValidMach(m) {
		t.Fatalf("the machine is not valid")
	}
	for _, a := range accesses() {
		for offset := int64(-3); offset <= 13; offset++ {
			m.Regs[6] = top - 10
			wantAccess(t, a, m, 1, offset, offset, offset >= 0 && offset+a.width <= 10)
			wantAccess(t, a, m, 0, offset, offset-11, offset-11 >= 0 && offset-11+a.width <= 16)
		}
	}
}

func TestAccessNoHeaplet(t *testing.T) {
	for _, a := range accesses() {
		for h := int64(3); h < 8; h++ {
			wantAccess(t, a, withRegs(plainMach(), 1, 1, 1, 1, 1, 1, 100), h, 0, 0, false)
		}
		none := withRegs(withHeaps(), 1, 1, 1, 1, 1, 1, 100)
		wantAccess(t, a, none, 0, 0, 0, false)
	}
}

// The heaplet is the one that H names, whatever lies at the address.
func TestAccessOtherHeaplet(t *testing.T) {
	for _, a := range accesses() {
		m := plainMach()
		m.Regs[6] = 100
		wantAccess(t, a, m, 2, 0, 0, false)
		wantAccess(t, a, m, 1, 0, 0, false)
		wantAccess(t, a, m, 1, 100, 0, a.width <= 9)
	}
}

// Bytes that lie half in a heaplet and half in its neighbour are in neither.
func TestAccessAcrossNeighbours(t *testing.T) {
	m := plainMach()
	m.Heaps = []impl.Heap{heapAt(100, 8), heapAt(108, 8)}
	m.Regs[6] = 100
	for _, a := range accesses() {
		if a.width == 8 {
			for h := range int64(2) {
				for offset := int64(1); offset < 8; offset++ {
					wantAccess(t, a, m, h, offset, 0, false)
				}
			}
		}
	}
}

func TestReadOnly(t *testing.T) {
	for _, a := range accesses() {
		m := plainMach()
		m.Regs[6] = 200
		x, m := a.reach(m, 1, 0)
		got := stepOne(x, m)
		if a.store && (got.Status != impl.Faulted || got.Pc != 0) {
			t.Errorf("a store to what is not Write: %+v", got)
		}
		if !a.store && (got.Status != impl.Running || got.Pc != 1) {
			t.Errorf("a load of what is not Write: %+v", got)
		}
		if !slices.Equal(got.Heaps[1].Data, plainMach().Heaps[1].Data) || len(got.Obs) != 1 {
			t.Errorf("what is not Write: %+v", got)
		}
	}
}

// What was seen before stays in front.
func TestSeenInOrder(t *testing.T) {
	prog := []impl.Ins{{Op: impl.OpLdb, D: 5, A: 0}, {Op: impl.OpDiv, D: 4, A: 4, B: 5}, {Op: impl.OpCmp}, {Op: impl.OpJz, Imm: 5}, halt, {Op: impl.OpStb, D: 4, A: 1, H: 1}, halt}
	m := plainMach()
	m.Obs = []impl.Obs{{Kind: impl.ObsBranch, Val: 77}}
	got := impl.RunMach(prog, m, 100)
	want := []impl.Obs{{Kind: impl.ObsBranch, Val: 77}, {Kind: impl.ObsAddr, Val: 100}, {Kind: impl.ObsTime, Val: 3*65 + 1}, {Kind: impl.ObsBranch, Val: 1}, {Kind: impl.ObsAddr, Val: 200}}
	if !slices.Equal(got.Obs, want) || got.Status != impl.Faulted || got.Pc != 5 {
		t.Errorf("what is seen: %+v", got)
	}
}

// A load may overwrite the register that it is reached by; a store may store it.
func TestAccessSameRegister(t *testing.T) {
	m := plainMach()
	if got := stepOne(impl.Ins{Op: impl.OpLdb, D: 0, A: 0, Imm: 2}, m); got.Regs[0] != 3 || got.Obs[0].Val != 102 {
		t.Errorf("a load into its own address: %+v", got)
	}
	got := stepOne(impl.Ins{Op: impl.OpStq, D: 0, A: 0, Imm: 1}, m)
	if !slices.Equal(got.Heaps[0].Data[:10], []byte{1, 100, 0, 0, 0, 0, 0, 0, 0, 10}) || got.Regs[0] != 100 {
		t.Errorf("a store of its own address: %+v", got)
	}
	if got := stepOne(impl.Ins{Op: impl.OpStb, D: 7, A: 0, Imm: 1}, m); !slices.Equal(got.Heaps[0].Data[:4], []byte{1, 255, 3, 4}) {
		t.Errorf("a store of the lowest byte: %+v", got)
	}
}
