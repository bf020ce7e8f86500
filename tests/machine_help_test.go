package tests

import (
	"bytes"
	"fmt"
	"slices"
	"testing"

	"loop.example/s01319/impl"
)

const top = 18446744073709551615

var halt = impl.Ins{Op: impl.OpHalt}

// plainMach has two heaplets that may be written and one that may not, with registers that point at them.
func plainMach() impl.Mach {
	return impl.Mach{
		Regs: []uint64{100, 200, 300, 5, 7, 0, 1 << 63, top},
		Heaps: []impl.Heap{
			{Base: 100, Write: true, Data: []byte{1, 2, 3, 4, 5, 6, 7, 8, 9, 10, 11, 12, 13, 14, 15, 0xf0}},
			{Base: 200, Data: []byte{20, 21, 22, 23, 24, 25, 26, 27, 28}},
			{Base: 300, Write: true, Data: []byte{30, 31, 32}},
		},
	}
}

// withFlags is a plain machine with both flags defined.
func withFlags(z, c bool) impl.Mach {
	m := plainMach()
	m.HasZ, m.Z, m.HasC, m.C = true, z, true, c
	return m
}

func withRegs(m impl.Mach, regs ...uint64) impl.Mach {
	copy(m.Regs, regs)
	return m
}

func cloneMach(m impl.Mach) impl.Mach {
	m.Regs = slices.Clone(m.Regs)
	m.Heaps = slices.Clone(m.Heaps)
	for i := range m.Heaps {
		m.Heaps[i].Data = slices.Clone(m.Heaps[i].Data)
	}
	m.Obs = slices.Clone(m.Obs)
	return m
}

// sameMach holds two machines against each other; an empty list and nil are the same.
func sameMach(a, b impl.Mach) bool {
	return slices.Equal(a.Regs, b.Regs) && a.Z == b.Z && a.C == b.C && a.HasZ == b.HasZ && a.HasC == b.HasC &&
		slices.EqualFunc(a.Heaps, b.Heaps, sameHeap) && a.Pc == b.Pc && a.Status == b.Status && slices.Equal(a.Obs, b.Obs)
}

func sameHeap(a, b impl.Heap) bool {
	return a.Base == b.Base && a.Write == b.Write && bytes.Equal(a.Data, b.Data)
}

func isZeroMach(m impl.Mach) bool { return sameMach(m, impl.Mach{}) }

func wantMach(t *testing.T, name string, got, want impl.Mach) {
	t.Helper()
	if !sameMach(got, want) {
		t.Errorf("%s:\n got %s\nwant %s", name, showMach(got), showMach(want))
	}
}

func showMach(m impl.Mach) string {
	if len(m.Obs) > 20 {
		return fmt.Sprintf("%d obs, %+v", len(m.Obs), impl.Mach{Regs: m.Regs, Z: m.Z, C: m.C, HasZ: m.HasZ, HasC: m.HasC, Heaps: m.Heaps, Pc: m.Pc, Status: m.Status})
	}
	return fmt.Sprintf("%+v", m)
}

// stepOne does x as the first instruction of a program of four, so that a jump to 0..3 is valid.
func stepOne(x impl.Ins, m impl.Mach) impl.Mach {
	return impl.StepMach([]impl.Ins{x, halt, halt, halt}, m)
}

// mayPanic tells whether f panics: no function may.
func mayPanic(f func()) (got any) {
	defer func() { got = recover() }()
	f()
	return nil
}
