package impl

import (
	"math"
	"math/bits"
)

const (
	RegCount = 8
	HeapMax  = 8
	SizeMax  = 4096
	ImmMax   = 1000000
	FlatMax  = 2000
	StepMax  = 100000
)

const (
	OpMov = iota + 1
	OpMovi
	OpAdd
	OpSub
	OpMul
	OpAnd
	OpOr
	OpXor
	OpDiv
	OpAddi
	OpAndi
	OpShl
	OpShr
	OpAdds
	OpAdc
	OpSubs
	OpCmp
	OpCmpi
	OpSelz
	OpSelc
	OpLdb
	OpLdq
	OpStb
	OpStq
	OpLdbx
	OpLdqx
	OpStbx
	OpStqx
	OpJmp
	OpJz
	OpJnz
	OpJc
	OpJnc
	OpHalt
)

const (
	Running = iota
	Halted
	Faulted
)

const (
	ObsAddr = iota + 1
	ObsBranch
	ObsTime
)

type Ins struct {
	Op  int64
	D   int64
	A   int64
	B   int64
	Imm int64
	H   int64
}

type Heap struct {
	Base  uint64
	Write bool
	Data  []byte
}

type Obs struct {
	Kind int64
	Val  uint64
}

type Mach struct {
	Regs   []uint64
	Z      bool
	C      bool
	HasZ   bool
	HasC   bool
	Heaps  []Heap
	Pc     int64
	Status int64
	Obs    []Obs
}

// The fields that an op may use, one bit each.
const (
	usesD = 1 << iota
	usesA
	usesB
	usesImm
	usesH
)

// fieldsOf answers the fields that a known op uses, as a sum of uses bits.
func fieldsOf(op int64) int64 {
	switch op {
	case OpMov:
		return usesD | usesA
	case OpMovi:
		return usesD | usesImm
	case OpAddi, OpAndi, OpShl, OpShr:
		return usesD | usesA | usesImm
	case OpCmp:
		return usesA | usesB
	case OpCmpi:
		return usesA | usesImm
	case OpLdb, OpLdq, OpStb, OpStq:
		return usesD | usesA | usesImm | usesH
	case OpLdbx, OpLdqx, OpStbx, OpStqx:
		return usesD | usesA | usesB | usesH
	case OpJmp, OpJz, OpJnz, OpJc, OpJnc:
		return usesImm
	case OpHalt:
		return 0
	}
	return usesD | usesA | usesB
}

// immBounds answers the smallest and the largest Imm of an op that uses it.
func immBounds(op int64) (int64, int64) {
	switch op {
	case OpAndi:
		return 0, ImmMax
	case OpShl, OpShr:
		return 0, 63
	case OpJmp, OpJz, OpJnz, OpJc, OpJnc:
		return 0, FlatMax - 1
	}
	return -ImmMax, ImmMax
}

func isJump(op int64) bool { return op >= OpJmp && op <= OpJnc }

func validField(used bool, v, low, high int64) bool {
	if !used {
		return v == 0
	}
	return low <= v && v <= high
}

func ValidIns(x Ins) bool {
	if x.Op < OpMov || x.Op > OpHalt {
		return false
	}
	uses := fieldsOf(x.Op)
	low, high := immBounds(x.Op)
	return validField(uses&usesD != 0, x.D, 0, RegCount-1) &&
		validField(uses&usesA != 0, x.A, 0, RegCount-1) &&
		validField(uses&usesB != 0, x.B, 0, RegCount-1) &&
		validField(uses&usesImm != 0, x.Imm, low, high) &&
		validField(uses&usesH != 0, x.H, 0, HeapMax-1)
}

func ValidFlat(prog []Ins) bool {
	size := int64(len(prog))
	if size < 1 || size > FlatMax {
		return false
	}
	for _, x := range prog {
		if !ValidIns(x) || isJump(x.Op) && x.Imm >= size {
			return false
		}
	}
	return prog[size-1].Op == OpHalt
}

func ValidMach(m Mach) bool {
	return len(m.Regs) == RegCount &&
		(m.HasZ || !m.Z) && (m.HasC || !m.C) &&
		validHeaps(m.Heaps) &&
		m.Pc >= 0 && m.Pc <= FlatMax &&
		m.Status >= Running && m.Status <= Faulted &&
		validSeen(m.Obs)
}

func validHeaps(heaps []Heap) bool {
	if len(heaps) > HeapMax {
		return false
	}
	for i, h := range heaps {
		if !validHeap(h) {
			return false
		}
		for _, earlier := range heaps[:i] {
			if overlap(earlier, h) {
				return false
			}
		}
	}
	return true
}

// The end of the heaplet is held against the top by subtraction: the sum itself could wrap.
func validHeap(h Heap) bool {
	size := len(h.Data)
	return size >= 1 && size <= SizeMax && h.Base <= math.MaxUint64-uint64(size)
}

// overlap is asked of valid heaplets only, so that neither end wraps.
func overlap(a, b Heap) bool {
	return a.Base < b.Base+uint64(len(b.Data)) && b.Base < a.Base+uint64(len(a.Data))
}

func validSeen(seen []Obs) bool {
	if len(seen) > 2*StepMax {
		return false
	}
	for _, o := range seen {
		if o.Kind < ObsAddr || o.Kind > ObsTime {
			return false
		}
	}
	return true
}

func StepMach(prog []Ins, m Mach) Mach {
	if !ValidFlat(prog) || !ValidMach(m) {
		return Mach{}
	}
	c := newCore(m)
	if c.mach.Status == Running {
		c.step(prog)
	}
	return c.mach
}

// A run keeps every promise that a step asks of its machine, so that they are asked once, ahead of it.
func RunMach(prog []Ins, m Mach, steps int64) Mach {
	if steps < 0 || steps > StepMax || len(m.Obs) > StepMax || !ValidFlat(prog) || !ValidMach(m) {
		return Mach{}
	}
	c := newCore(m)
	for done := int64(0); done < steps && c.mach.Status == Running; done++ {
		c.step(prog)
	}
	return c.mach
}

// core is a machine at work: its lists are its own, and next is where it goes on if the instruction doesn't fault.
type core struct {
	mach Mach
	next int64
	ops  [OpHalt + 1]opFunc
}

// opFunc does an instruction, or panics with a machFault.
type opFunc func(c *core, x Ins)

// machFault is what stops an instruction that can't be done.
type machFault struct{}

func newCore(m Mach) *core { return &core{mach: copyMach(m), ops: opTable()} }

func copyMach(m Mach) Mach {
	m.Regs = copyList(m.Regs)
	m.Heaps = copyList(m.Heaps)
	for i := range m.Heaps {
		m.Heaps[i].Data = copyList(m.Heaps[i].Data)
	}
	m.Obs = copyList(m.Obs)
	return m
}

func copyList[T any](list []T) []T { return append([]T(nil), list...) }

// step does one step of a valid program. Pc moves last, so that a fault leaves it where it was.
func (c *core) step(prog []Ins) {
	defer func() {
		if r := recover(); r != nil {
			if _, ok := r.(machFault); !ok {
				panic(r)
			}
			c.mach.Status = Faulted
		}
	}()
	x := c.fetch(prog)
	c.next = c.mach.Pc + 1
	c.ops[x.Op](c, x)
	c.mach.Pc = c.next
}

func (c *core) fetch(prog []Ins) Ins {
	if c.mach.Pc >= int64(len(prog)) {
		panic(machFault{})
	}
	return prog[c.mach.Pc]
}

func opTable() [OpHalt + 1]opFunc {
	return [OpHalt + 1]opFunc{
		OpMov:  doMov,
		OpMovi: doMovi,
		OpAdd:  ofRegisters(sum),
		OpSub:  ofRegisters(difference),
		OpMul:  ofRegisters(product),
		OpAnd:  ofRegisters(bothBits),
		OpOr:   ofRegisters(eitherBits),
		OpXor:  ofRegisters(oneBits),
		OpDiv:  doDiv,
		OpAddi: ofNumber(sum),
		OpAndi: ofNumber(bothBits),
		OpShl:  ofNumber(shiftLeft),
		OpShr:  ofNumber(shiftRight),
		OpAdds: doAdds,
		OpAdc:  doAdc,
		OpSubs: doSubs,
		OpCmp:  doCmp,
		OpCmpi: doCmpi,
		OpSelz: selectBy(zeroFlag),
		OpSelc: selectBy(carryFlag),
		OpLdb:  loadOf(1, addressByNumber),
		OpLdq:  loadOf(8, addressByNumber),
		OpStb:  storeOf(1, addressByNumber),
		OpStq:  storeOf(8, addressByNumber),
		OpLdbx: loadOf(1, addressByIndex),
		OpLdqx: loadOf(8, addressByIndex),
		OpStbx: storeOf(1, addressByIndex),
		OpStqx: storeOf(8, addressByIndex),
		OpJmp:  doJmp,
		OpJz:   jumpWhen(zeroFlag, true),
		OpJnz:  jumpWhen(zeroFlag, false),
		OpJc:   jumpWhen(carryFlag, true),
		OpJnc:  jumpWhen(carryFlag, false),
		OpHalt: doHalt,
	}
}

func sum(a, b uint64) uint64        { return a + b }
func difference(a, b uint64) uint64 { return a - b }
func product(a, b uint64) uint64    { return a * b }
func bothBits(a, b uint64) uint64   { return a & b }
func eitherBits(a, b uint64) uint64 { return a | b }
func oneBits(a, b uint64) uint64    { return a ^ b }
func shiftLeft(a, b uint64) uint64  { return a << b }
func shiftRight(a, b uint64) uint64 { return a >> b }

func ofRegisters(f func(a, b uint64) uint64) opFunc {
	return func(c *core, x Ins) { c.mach.Regs[x.D] = f(c.mach.Regs[x.A], c.mach.Regs[x.B]) }
}

func ofNumber(f func(a, b uint64) uint64) opFunc {
	return func(c *core, x Ins) { c.mach.Regs[x.D] = f(c.mach.Regs[x.A], uint64(x.Imm)) }
}

func doMov(c *core, x Ins) { c.mach.Regs[x.D] = c.mach.Regs[x.A] }

func doMovi(c *core, x Ins) { c.mach.Regs[x.D] = uint64(x.Imm) }

// The time counts the bits of both operands in one number: 65 is one more than there can be.
func doDiv(c *core, x Ins) {
	a, b := c.mach.Regs[x.A], c.mach.Regs[x.B]
	c.see(ObsTime, uint64(bits.Len64(a)*65+bits.Len64(b)))
	c.mach.Regs[x.D] = 0
	if b != 0 {
		c.mach.Regs[x.D] = a / b
	}
}

func doAdds(c *core, x Ins) { c.addWith(x, 0) }

func doAdc(c *core, x Ins) {
	if carryFlag(c) {
		c.addWith(x, 1)
	} else {
		c.addWith(x, 0)
	}
}

func (c *core) addWith(x Ins, carry uint64) {
	total, over := bits.Add64(c.mach.Regs[x.A], c.mach.Regs[x.B], carry)
	c.mach.Regs[x.D] = total
	c.setFlags(total, over)
}

func doSubs(c *core, x Ins) {
	c.mach.Regs[x.D] = c.compare(c.mach.Regs[x.A], c.mach.Regs[x.B])
}

func doCmp(c *core, x Ins) { c.compare(c.mach.Regs[x.A], c.mach.Regs[x.B]) }

func doCmpi(c *core, x Ins) { c.compare(c.mach.Regs[x.A], uint64(x.Imm)) }

// compare sets the flags of a - b and answers it.
func (c *core) compare(a, b uint64) uint64 {
	rest, under := bits.Sub64(a, b, 0)
	c.setFlags(rest, under)
	return rest
}

func (c *core) setFlags(result, carry uint64) {
	c.mach.Z, c.mach.HasZ = result == 0, true
	c.mach.C, c.mach.HasC = carry != 0, true
}

// flagFunc answers a flag that is needed, or faults if it is undefined.
type flagFunc func(c *core) bool

func zeroFlag(c *core) bool { return defined(c.mach.Z, c.mach.HasZ) }

func carryFlag(c *core) bool { return defined(c.mach.C, c.mach.HasC) }

func defined(flag, has bool) bool {
	if !has {
		panic(machFault{})
	}
	return flag
}

func selectBy(flag flagFunc) opFunc {
	return func(c *core, x Ins) {
		if flag(c) {
			c.mach.Regs[x.D] = c.mach.Regs[x.A]
		} else {
			c.mach.Regs[x.D] = c.mach.Regs[x.B]
		}
	}
}

// addressFunc answers the address of a load or store.
type addressFunc func(c *core, x Ins) uint64

func addressByNumber(c *core, x Ins) uint64 { return c.mach.Regs[x.A] + uint64(x.Imm) }

func addressByIndex(c *core, x Ins) uint64 { return c.mach.Regs[x.A] + c.mach.Regs[x.B] }

func loadOf(width uint64, address addressFunc) opFunc {
	return func(c *core, x Ins) {
		cells := c.cellsAt(x.H, address(c, x), width, false)
		value := uint64(0)
		for i, b := range cells {
			value |= uint64(b) << (8 * i)
		}
		c.mach.Regs[x.D] = value
	}
}

func storeOf(width uint64, address addressFunc) opFunc {
	return func(c *core, x Ins) {
		cells := c.cellsAt(x.H, address(c, x), width, true)
		for i := range cells {
			cells[i] = byte(c.mach.Regs[x.D] >> (8 * i))
		}
	}
}

// cellsAt answers the heaplet's own bytes at an address. The access is seen even when it faults.
func (c *core) cellsAt(number int64, address, width uint64, write bool) []byte {
	c.see(ObsAddr, address)
	if number >= int64(len(c.mach.Heaps)) {
		panic(machFault{})
	}
	h := c.mach.Heaps[number]
	if !liesIn(h, address, width) || write && !h.Write {
		panic(machFault{})
	}
	offset := address - h.Base
	return h.Data[offset : offset+width]
}

// liesIn adds nothing to the address, so that no access near the top wraps into a heaplet.
func liesIn(h Heap, address, width uint64) bool {
	size := uint64(len(h.Data))
	return address >= h.Base && width <= size && address-h.Base <= size-width
}

func doJmp(c *core, x Ins) { c.next = x.Imm }

func jumpWhen(flag flagFunc, wanted bool) opFunc {
	return func(c *core, x Ins) {
		if flag(c) == wanted {
			c.see(ObsBranch, 1)
			c.next = x.Imm
		} else {
			c.see(ObsBranch, 0)
		}
	}
}

func doHalt(c *core, x Ins) {
	c.mach.Status = Halted
	c.next = c.mach.Pc
}

func (c *core) see(kind int64, val uint64) {
	c.mach.Obs = append(c.mach.Obs, Obs{Kind: kind, Val: val})
}
