package tests

import (
	"math"
	"slices"
	"testing"

	"loop.example/s01319/impl"
)

// opRow says of an op, in the document's words, which fields it has, and the bounds of its Imm.
type opRow struct {
	op     int64
	fields string
	low    int64
	high   int64
}

func opRows() []opRow {
	var rows []opRow
	add := func(fields string, low, high int64, ops ...int64) {
		for _, op := range ops {
			rows = append(rows, opRow{op, fields, low, high})
		}
	}
	add("DA", 0, 0, 1)
	add("DI", -1000000, 1000000, 2)
	add("DAB", 0, 0, 3, 4, 5, 6, 7, 8, 9)
	add("DAI", -1000000, 1000000, 10)
	add("DAI", 0, 1000000, 11)
	add("DAI", 0, 63, 12, 13)
	add("DAB", 0, 0, 14, 15, 16)
	add("AB", 0, 0, 17)
	add("AI", -1000000, 1000000, 18)
	add("DAB", 0, 0, 19, 20)
	add("DAIH", -1000000, 1000000, 21, 22, 23, 24)
	add("DABH", 0, 0, 25, 26, 27, 28)
	add("I", 0, 1999, 29, 30, 31, 32, 33)
	add("", 0, 0, 34)
	return rows
}

func (r opRow) bounds(field byte) (int64, int64) {
	if !slices.Contains([]byte(r.fields), field) {
		return 0, 0
	}
	switch field {
	case 'I':
		return r.low, r.high
	}
	return 0, 7
}

func setField(x impl.Ins, field byte, v int64) impl.Ins {
	switch field {
	case 'D':
		x.D = v
	case 'A':
		x.A = v
	case 'B':
		x.B = v
	case 'I':
		x.Imm = v
	case 'H':
		x.H = v
	}
	return x
}

func TestOpNumbers(t *testing.T) {
	ops := []int64{
		impl.OpMov, impl.OpMovi, impl.OpAdd, impl.OpSub, impl.OpMul, impl.OpAnd, impl.OpOr, impl.OpXor, impl.OpDiv, impl.OpAddi, impl.OpAndi, impl.OpShl,
		impl.OpShr, impl.OpAdds, impl.OpAdc, impl.OpSubs, impl.OpCmp, impl.OpCmpi, impl.OpSelz, impl.OpSelc, impl.OpLdb, impl.OpLdq, impl.OpStb, impl.OpStq,
		impl.OpLdbx, impl.OpLdqx, impl.OpStbx, impl.OpStqx, impl.OpJmp, impl.OpJz, impl.OpJnz, impl.OpJc, impl.OpJnc, impl.OpHalt,
	}
	for i, op := range ops {
		if op != int64(i)+1 {
			t.Errorf("op %d has the number %d", i+1, op)
		}
	}
	if len(opRows()) != len(ops) {
		t.Errorf("%d rows", len(opRows()))
	}
	if !slices.Equal([]int64{impl.Running, impl.Halted, impl.Faulted}, []int64{0, 1, 2}) {
		t.Errorf("the numbers of Status")
	}
	if !slices.Equal([]int64{impl.ObsAddr, impl.ObsBranch, impl.ObsTime}, []int64{1, 2, 3}) {
		t.Errorf("the kinds of Obs")
	}
	if !slices.Equal([]int64{impl.RegCount, impl.HeapMax, impl.SizeMax, impl.ImmMax, impl.FlatMax, impl.StepMax}, []int64{8, 8, 4096, 1000000, 2000, 100000}) {
		t.Errorf("the bounds")
	}
}

func TestValidInsFields(t *testing.T) {
	for _, r := range opRows() {
		least, most := impl.Ins{Op: r.op}, impl.Ins{Op: r.op}
		for _, field := range []byte("DABIH") {
			low, high := r.bounds(field)
			least, most = setField(least, field, low), setField(most, field, high)
			for _, v := range []int64{math.MinInt64, low - 1, low, low + 1, (low + high) / 2, high - 1, high, high + 1, math.MaxInt64} {
				x := setField(impl.Ins{Op: r.op}, field, v)
				if got, want := impl.ValidIns(x), low <= v && v <= high; got != want {
					t.Errorf("ValidIns(%+v) = %v", x, got)
				}
			}
		}
		if !impl.ValidIns(least) || !impl.ValidIns(most) {
			t.Errorf("op %d: not valid at its bounds", r.op)
		}
	}
}

func TestValidInsOps(t *testing.T) {
	for _, op := range []int64{math.MinInt64, -1, 0, 35, 36, math.MaxInt64} {
		if impl.ValidIns(impl.Ins{Op: op}) {
			t.Errorf("op %d is valid", op)
		}
	}
	for op := int64(1); op <= 34; op++ {
		if !impl.ValidIns(impl.Ins{Op: op}) {
			t.Errorf("op %d is not valid", op)
		}
	}
}

// longProg has size instructions, the last of which is a halt.
func longProg(size int) []impl.Ins {
	prog := make([]impl.Ins, size)
	for i := range prog {
		prog[i] = impl.Ins{Op: impl.OpMov}
	}
	prog[size-1] = halt
	return prog
}

func TestValidFlat(t *testing.T) {
	mov := impl.Ins{Op: impl.OpMov}
	rows := []struct {
		name string
		prog []impl.Ins
		want bool
	}{
		{"nil", nil, false},
		{"empty", []impl.Ins{}, false},
		{"one halt", []impl.Ins{halt}, true},
		{"no halt at the end", []impl.Ins{halt, mov}, false},
		{"a jump at the end", []impl.Ins{halt, {Op: impl.OpJmp}}, false},
		{"halts inside", []impl.Ins{halt, mov, halt, halt}, true},
		{"as long as may be", longProg(2000), true},
		{"too long", longProg(2001), false},
		{"wrong first", []impl.Ins{{}, mov, halt}, false},
		{"wrong in the middle", []impl.Ins{mov, {Op: impl.OpMov, B: 1}, halt}, false},
		{"wrong halt", []impl.Ins{mov, {Op: impl.OpHalt, D: 1}}, false},
	}
	for _, r := range rows {
		if got := impl.ValidFlat(r.prog); got != r.want {
			t.Errorf("%s: %v", r.name, got)
		}
	}
}

func TestValidFlatJumps(t *testing.T) {
	for op := int64(impl.OpJmp); op <= impl.OpJnc; op++ {
		for target := int64(-1); target <= 4; target++ {
			prog := []impl.Ins{{Op: impl.OpMov}, {Op: op, Imm: target}, halt}
			if got, want := impl.ValidFlat(prog), target >= 0 && target <= 2; got != want {
				t.Errorf("op %d to %d: %v", op, target, got)
			}
		}
		full := longProg(2000)
		full[0] = impl.Ins{Op: op, Imm: 1999}
		if !impl.ValidFlat(full) {
			t.Errorf("op %d to the last instruction", op)
		}
	}
	if !impl.ValidFlat([]impl.Ins{{Op: impl.OpMovi, Imm: 1000000}, {Op: impl.OpLdb, Imm: 999}, halt}) {
		t.Errorf("an Imm that is no jump's is held against the program's length")
	}
}

// changed is a plain machine after a change.
func changed(change func(m *impl.Mach)) impl.Mach {
	m := plainMach()
	change(&m)
	return m
}

type machRow struct {
	name string
	m    impl.Mach
	want bool
}

func wantValid(t *testing.T, rows []machRow) {
	t.Helper()
	for _, r := range rows {
		if got := impl.ValidMach(r.m); got != r.want {
			t.Errorf("%s: %v", r.name, got)
		}
	}
}

func TestValidMachPlain(t *testing.T) {
	wantValid(t, []machRow{
		{"plain", plainMach(), true},
		{"the zero Mach", impl.Mach{}, false},
		{"only registers", impl.Mach{Regs: make([]uint64, 8)}, true},
		{"seven registers", impl.Mach{Regs: make([]uint64, 7)}, false},
		{"nine registers", impl.Mach{Regs: make([]uint64, 9)}, false},
		{"Z without HasZ", changed(func(m *impl.Mach) { m.Z = true }), false},
		{"C without HasC", changed(func(m *impl.Mach) { m.C = true }), false},
		{"Z with HasC", changed(func(m *impl.Mach) { m.Z, m.HasC = true, true }), false},
		{"C with HasZ", changed(func(m *impl.Mach) { m.C, m.HasZ = true, true }), false},
		{"flags that are set", withFlags(true, true), true},
		{"flags that are not set", withFlags(false, false), true},
		{"Pc -1", changed(func(m *impl.Mach) { m.Pc = -1 }), false},
		{"Pc 2000", changed(func(m *impl.Mach) { m.Pc = 2000 }), true},
		{"Pc 2001", changed(func(m *impl.Mach) { m.Pc = 2001 }), false},
		{"Pc far below", changed(func(m *impl.Mach) { m.Pc = math.MinInt64 }), false},
		{"Status -1", changed(func(m *impl.Mach) { m.Status = -1 }), false},
		{"Status 1", changed(func(m *impl.Mach) { m.Status = 1 }), true},
		{"Status 2", changed(func(m *impl.Mach) { m.Status = 2 }), true},
		{"Status 3", changed(func(m *impl.Mach) { m.Status = 3 }), false},
	})
}

func TestValidMachObs(t *testing.T) {
	seen := func(size int, last int64) impl.Mach {
		m := plainMach()
		m.Obs = slices.Repeat([]impl.Obs{{Kind: impl.ObsBranch, Val: top}}, size)
		m.Obs[size-1].Kind = last
		return m
	}
	wantValid(t, []machRow{
		{"kind 0", seen(3, 0), false},
		{"kind 1", seen(3, 1), true},
		{"kind 2", seen(3, 2), true},
		{"kind 3", seen(3, 3), true},
		{"kind 4", seen(3, 4), false},
		{"kind -1", seen(3, -1), false},
		{"200000 entries", seen(200000, 1), true},
		{"200001 entries", seen(200001, 1), false},
	})
}

// heapAt is a heaplet of size bytes.
func heapAt(base uint64, size int) impl.Heap {
	return impl.Heap{Base: base, Write: true, Data: make([]byte, size)}
}

func withHeaps(heaps ...impl.Heap) impl.Mach {
	return changed(func(m *impl.Mach) { m.Heaps = heaps })
}

func TestValidMachHeaps(t *testing.T) {
	eight := []impl.Heap{}
	for i := range 8 {
		eight = append(eight, heapAt(uint64(i)*8, 8))
	}
	wantValid(t, []machRow{
		{"no heaplet", withHeaps(), true},
		{"eight heaplets", withHeaps(eight...), true},
		{"nine heaplets", withHeaps(append(slices.Clone(eight), heapAt(64, 1))...), false},
		{"no bytes", withHeaps(heapAt(10, 0)), false},
		{"one byte", withHeaps(heapAt(10, 1)), true},
		{"4096 bytes", withHeaps(heapAt(10, 4096)), true},
		{"4097 bytes", withHeaps(heapAt(10, 4097)), false},
		{"at 0", withHeaps(heapAt(0, 4096)), true},
		{"up to 2^64 - 1", withHeaps(heapAt(top-16, 16)), true},
		{"up to 2^64", withHeaps(heapAt(top-15, 16)), false},
		{"beyond 2^64", withHeaps(heapAt(top-14, 16)), false},
		{"at 2^64 - 2", withHeaps(heapAt(top-1, 1)), true},
		{"at 2^64 - 1", withHeaps(heapAt(top, 1)), false},
		{"the largest at the top", withHeaps(heapAt(top-4096, 4096)), true},
		{"the largest one too high", withHeaps(heapAt(top-4095, 4096)), false},
	})
}

func TestValidMachOverlap(t *testing.T) {
	wantValid(t, []machRow{
		{"side by side", withHeaps(heapAt(100, 10), heapAt(110, 5)), true},
		{"side by side, the higher first", withHeaps(heapAt(110, 5), heapAt(100, 10)), true},
		{"one byte shared", withHeaps(heapAt(100, 10), heapAt(109, 5)), false},
		{"one byte shared, the higher first", withHeaps(heapAt(109, 5), heapAt(100, 10)), false},
		{"the same base", withHeaps(heapAt(100, 1), heapAt(100, 10)), false},
		{"one inside the other", withHeaps(heapAt(100, 10), heapAt(105, 1)), false},
		{"one around the other", withHeaps(heapAt(105, 1), heapAt(100, 10)), false},
		{"the first and the third", withHeaps(heapAt(100, 10), heapAt(50, 10), heapAt(104, 10)), false},
		{"the second and the third", withHeaps(heapAt(50, 10), heapAt(100, 10), heapAt(104, 10)), false},
		{"at both ends", withHeaps(heapAt(0, 16), heapAt(top-16, 16)), true},
		{"side by side at the top", withHeaps(heapAt(top-16, 16), heapAt(top-32, 16)), true},
		{"shared at the top", withHeaps(heapAt(top-16, 16), heapAt(top-31, 16)), false},
	})
}
