package core_test

import (
	"testing"

	"almonry/amo"
	"almonry/api"
	"almonry/asm"
	"almonry/bus"
	"almonry/core"
	"almonry/csr"
	"almonry/exec"
	"almonry/inst"
	"almonry/mmu"
	"almonry/rvc"
	"almonry/trap"
)

// model does a step as the chapter tells it, with a new mmu for each access.
func model(b *bus.Bus, f *core.Frame) core.Told {
	dog := b.Tick()
	f.S.Hw = b.Hw()
	f.S.Cycle++
	if cause, ok := trap.Pending(f.S, f.Mode); ok {
		f.S, f.Mode, f.Pc = trap.Enter(f.S, f.Mode, f.Pc, trap.Taken{Cause: cause, Interrupt: true})
		f.Waiting = false
		b.Drop()
		return core.Told{Outcome: api.Trapped, Cause: cause, Interrupt: true, Dog: dog}
	}
	if f.Waiting && !trap.Awake(f.S) {
		return core.Told{Outcome: api.Idle, Dog: dog}
	}
	f.Waiting = false
	told := core.Told{Dog: dog}
	if t := modelInstruction(b, f); t.Is {
		told.Outcome, told.Trap, told.Cause = api.Trapped, t, t.Cause
		f.S, f.Mode, f.Pc = trap.Enter(f.S, f.Mode, f.Pc, trap.Taken{Cause: t.Cause, Tval: t.Tval})
		b.Drop()
	}
	return told
}

func modelInstruction(b *bus.Bus, f *core.Frame) api.Trap {
	half, t := mmu.New(b).Fetch(f.S, f.Mode, f.Pc)
	if t.Is {
		return t
	}
	parcel, x := uint32(half), rvc.Decode(half)
	if half%4 == 3 {
		upper, t := mmu.New(b).Fetch(f.S, f.Mode, f.Pc+2)
		if t.Is {
			return t
		}
		parcel += uint32(upper) * 65536
		x = inst.Decode(parcel)
	}
	illegal := api.Trap{Is: true, Cause: 2, Tval: uint64(parcel)}
	next, instret := f.Pc+uint64(x.Size), f.S.Instret+1
	a, v := f.Regs.Get(x.Rs1), f.Regs.Get(x.Rs2)
	width := inst.Width(x.Op)
	switch inst.Class(x.Op) {
	case inst.None:
		return illegal
	case inst.Arith, inst.Branches, inst.Jumps:
		next, _ = exec.Do(&f.Regs, f.Pc, x)
	case inst.Loads:
		n, t := mmu.New(b).Load(f.S, f.Mode, a+uint64(x.Imm), width)
		if t.Is {
			return t
		}
		switch {
		case inst.Signed(x.Op) && width == 1:
			n = uint64(int64(int8(n)))
		case inst.Signed(x.Op) && width == 2:
			n = uint64(int64(int16(n)))
		case inst.Signed(x.Op) && width == 4:
			n = uint64(int64(int32(n)))
		}
		f.Regs.Set(x.Rd, n)
	case inst.Stores:
		if t := mmu.New(b).Store(f.S, mmu.Ask{Va: a + uint64(x.Imm), Kind: api.Store, Mode: f.Mode, Width: width}, v); t.Is {
			return t
		}
	case inst.Atomics:
		kind, cause := uint8(api.Store), uint8(7)
		if x.Op == api.LRW || x.Op == api.LRD {
			kind, cause = api.Load, 5
		}
		pa, t := mmu.New(b).Reach(f.S, mmu.Ask{Va: a, Kind: kind, Mode: f.Mode, Width: width})
		if t.Is {
			return t
		}
		rd, ok := amo.Run(b, x.Op, pa, v)
		if !ok {
			return api.Trap{Is: true, Cause: cause, Tval: a}
		}
		f.Regs.Set(x.Rd, rd)
	case inst.Csrs:
		if !modelCsr(b, f, x, a, &instret) {
			return illegal
		}
	case inst.Systems:
		t := modelSystem(b, f, x, &next)
		if t.Is {
			if t.Cause == 2 {
				return illegal
			}
			return t
		}
	}
	f.Pc, f.S.Instret = next, instret
	return api.Trap{}
}

func modelCsr(b *bus.Bus, f *core.Frame, x api.Inst, a uint64, instret *uint64) bool {
	old, ok := csr.Read(f.S, b.Time(), x.Csr, f.Mode)
	if !ok {
		return false
	}
	operand, some := a, x.Rs1 != 0
	if x.Op >= api.CSRRWI {
		operand, some = uint64(x.Imm), x.Imm != 0
	}
	source, _ := csr.Source(f.S, b.Time(), x.Csr, f.Mode)
	switch x.Op {
	case api.CSRRW, api.CSRRWI:
		source, some = operand, true
	case api.CSRRS, api.CSRRSI:
		source |= operand
	default:
		source &^= operand
	}
	if some {
		s, ok := csr.Write(f.S, x.Csr, f.Mode, source)
		if !ok {
			return false
		}
		f.S = s
		if x.Csr == 0xb02 {
			*instret = s.Instret
		}
	}
	f.Regs.Set(x.Rd, old)
	return true
}

func modelSystem(b *bus.Bus, f *core.Frame, x api.Inst, next *uint64) api.Trap {
	illegal := api.Trap{Is: true, Cause: 2}
	bit := func(n int) bool { return f.Mode == 0 || f.Mode == 1 && f.S.Mstatus>>n&1 == 1 }
	switch x.Op {
	case api.ECALL:
		return api.Trap{Is: true, Cause: map[uint8]uint8{0: 8, 1: 9, 3: 11}[f.Mode]}
	case api.EBREAK:
		return api.Trap{Is: true, Cause: 3, Tval: f.Pc}
	case api.MRET:
		if f.Mode < 3 {
			return illegal
		}
		f.S, f.Mode, *next = trap.Mret(f.S)
		b.Drop()
	case api.SRET:
		if bit(22) {
			return illegal
		}
		f.S, f.Mode, *next = trap.Sret(f.S, f.Mode)
		b.Drop()
	case api.WFI:
		if bit(21) {
			return illegal
		}
		f.Waiting = true
	case api.SFENCEVMA:
		if bit(20) {
			return illegal
		}
	}
	return api.Trap{}
}

type random uint64

func (r *random) below(n uint64) uint64 {
	*r = *r*6364136223846793005 + 1442695040888963407
	return uint64(*r>>20) % n
}

// someWord is an instruction of four bytes, mostly one that does something, or two of two.
func (r *random) someWord() uint32 {
	switch r.below(12) {
	case 0:
		return uint32(r.below(1 << 32))
	case 1, 2:
		return uint32(r.below(1<<32))&^0x00030003 | uint32(r.below(3)) | uint32(r.below(3))<<16
	}
	op := uint8(1 + r.below(api.Ops-1))
	if r.below(3) == 0 {
		op = []uint8{api.LD, api.SD, api.LW, api.SW, api.LRD, api.SCD, api.LRW, api.SCW, api.CSRRW, api.CSRRS, api.MRET, api.SRET, api.WFI, api.SFENCEVMA, api.AMOADDD, api.ADDI}[r.below(16)]
	}
	x := api.Inst{Op: op, Size: 4}
	regs := func() uint8 { return uint8(r.below(12)) }
	csrs := []uint16{0x300, 0x100, 0x302, 0x303, 0x304, 0x104, 0x344, 0x144, 0x305, 0x105, 0x341, 0x141, 0x340, 0x306, 0x106, 0x180, 0x3a0, 0x3b0, 0x3b1, 0xb00, 0xb02, 0xc00, 0xc01, 0xc02, 0xf14, 0x7c0}
	for _, try := range []func(){
		func() {},
		func() { x.Rd, x.Rs1, x.Rs2 = regs(), regs(), regs() },
		func() { x.Rd, x.Rs1, x.Imm = regs(), regs(), int64(r.below(32)) },
		func() { x.Rd, x.Rs1, x.Imm = regs(), regs(), 8*int64(r.below(12)) },
		func() { x.Rs1, x.Rs2, x.Imm = regs(), regs(), 8*int64(r.below(12))-16 },
		func() { x.Rd, x.Imm = regs(), int64(r.below(8))<<12 },
		func() { x.Rd, x.Imm = regs(), 2*int64(r.below(64))-40 },
		func() { x.Rd, x.Rs1, x.Csr = regs(), regs(), csrs[r.below(uint64(len(csrs)))] },
		func() { x.Rd, x.Imm, x.Csr = regs(), int64(r.below(32)), csrs[r.below(uint64(len(csrs)))] },
		func() { x.Rd, x.Rs1 = regs(), regs() },
		func() { x.Rs1, x.Rs2 = regs(), regs() },
	} {
		if op == api.ECALL || op == api.EBREAK || op == api.FENCE || op == api.MRET || op == api.SRET || op == api.WFI {
			break
		}
		x = api.Inst{Op: op, Size: 4}
		try()
		if x.Rd|x.Rs1|x.Rs2 != 0 && inst.Check(x) == api.OK {
			break
		}
	}
	p, _ := asm.Encode(x)
	return p
}

// someFrame is one of any mode, whose registers point at the memory and the devices, and whose tables may stand in pages 1 to 3.
func (r *random) someFrame() core.Frame {
	f := core.First(3, base+r.below(1024)*4)
	f.Mode = []uint8{0, 1, 3, 3}[r.below(4)]
	places := []uint64{base, base + 64, base + 0x1000, base + 0x3000, base + 4092, 0, 0x1000, 0x02000000, 0x02004000, 0x0c002000, 0x10000000, 0x10001000, 0x10001010, 0x10002000, 7}
	for i := 1; i < 32; i++ {
		f.Regs[i] = places[r.below(uint64(len(places)))]
		if r.below(3) == 0 {
			f.Regs[i] = base + r.below(512)*8
		}
	}
	write := func(addr uint16, v uint64) { f.S, _ = csr.Write(f.S, addr, 3, v) }
	for range 12 {
		write([]uint16{0x300, 0x302, 0x303, 0x304, 0x344, 0x306, 0x106, 0x340, 0x140, 0x342}[r.below(10)], r.below(1<<24))
	}
	for _, addr := range []uint16{0x305, 0x105, 0x341, 0x141} {
		write(addr, base+r.below(512)*8+r.below(2))
	}
	if r.below(4) > 0 {
		write(0x3a0, 0x1f)
		write(0x3b0, 1<<54-1)
	}
	if r.below(2) == 0 {
		write(0x180, 8<<60|0x80001)
		if f.Mode != 3 {
			f.Pc = r.below(3)*4096 + r.below(64)*4
		}
	}
	f.Waiting = r.below(20) == 0
	return f
}

// someMemory fills five pages: code in 0 and 4, tables in 1 to 3.
func (r *random) someMemory(b *bus.Bus) {
	for page := range uint64(5) {
		for i := range uint64(1024) {
			b.Write(base+4096*page+4*i, uint64(r.someWord()), 4)
		}
	}
	b.Write(base+0x1000, 0x80002<<10|1, 8)
	b.Write(base+0x2000, 0x80003<<10|1, 8)
	for i := range uint64(8) {
		b.Write(base+0x3000+8*i, (0x80000+r.below(5))<<10|1|[]uint64{0xce, 0xde, 0x4e, 0x0e, 0x1e, 0x06, 0x0a}[r.below(7)], 8)
	}
}

// TestP26_2To6Model: random frames on random memories; each step as the model's, and as that of a hart that is made to forget.
func TestP26_2To6Model(t *testing.T) {
	r := random(1)
	outcomes := map[uint8]int{}
	causes := map[uint8]int{}
	for range 60 {
		var b [3]*bus.Bus
		seed := r
		for i := range b {
			b[i], _ = bus.New(5, 40, nil)
			r = seed
			r.someMemory(b[i])
		}
		h, forgets := core.New(3, b[0]), core.New(3, b[1])
		for range 30 {
			f := r.someFrame()
			if e := h.Lay(f); e != api.OK {
				t.Fatalf("the test's frame may not be: %v", e)
			}
			forgets.Lay(f)
			b[2].Drop()
			for range 25 {
				if r.below(20) == 0 {
					n, high := int(4+r.below(4)), r.below(2) == 0
					for i := range b {
						b[i].Line(n, high)
						b[i].Input(byte(n))
					}
				}
				before := f
				memory, _ := b[2].Bytes(base, 5*4096)
				want := model(b[2], &f)
				forgets.Forget()
				got, got2 := h.Step(), forgets.Step()
				if got != want || got2 != want || h.Frame() != f || forgets.Frame() != f {
					t.Fatalf("from %+v:\n%+v, %+v\nmodel %+v, %+v\nforgetful %+v, %+v", before, got, h.Frame(), want, f, got2, forgets.Frame())
				}
				outcomes[got.Outcome]++
				if got.Trap.Is {
					causes[got.Cause]++
				}
				checkStep(t, b, before, f, got, memory)
			}
			if d := b[2].Dump(); b[0].Dump() != d || b[1].Dump() != d {
				t.Fatal("another bus")
			}
		}
	}
	if outcomes[api.Retired] < 5000 || outcomes[api.Idle] < 100 || outcomes[api.Trapped] < 1000 {
		t.Errorf("the test reaches too little: %v", outcomes)
	}
	for _, c := range []uint8{1, 2, 3, 4, 5, 6, 7, 8, 9, 11, 12, 13, 15} {
		if causes[c] == 0 {
			t.Errorf("the test reaches no cause %d: %v", c, causes)
		}
	}
}

// checkStep: the memory is the same for all, a frame that may be follows, and P26.5.
func checkStep(t *testing.T, b [3]*bus.Bus, before, f core.Frame, got core.Told, memory string) {
	t.Helper()
	now, _ := b[2].Bytes(base, 5*4096)
	for i := range 2 {
		if s, _ := b[i].Bytes(base, 5*4096); s != now {
			t.Fatalf("from %+v: another memory", before)
		}
	}
	if core.Check(f) != api.OK {
		t.Fatalf("from %+v: a frame that may not be, %+v", before, f)
	}
	if got.Outcome == api.Retired {
		return
	}
	if f.Regs != before.Regs || f.S.Cycle != before.S.Cycle+1 || f.S.Instret != before.S.Instret {
		t.Fatalf("from %+v: %+v, %+v", before, got, f)
	}
	if got.Outcome == api.Idle || got.Interrupt {
		for i := range memory {
			if memory[i] != now[i] {
				t.Fatalf("from %+v: %+v writes", before, got)
			}
		}
	}
}
