package core_test

import (
	"strings"
	"testing"

	"almonry/api"
	"almonry/asm"
	"almonry/bus"
	"almonry/codec"
	"almonry/core"
	"almonry/csr"
	"almonry/exec"
)

const base = 0x80000000

type bench struct {
	t *testing.T
	b *bus.Bus
	h *core.Hart
}

func fresh(t *testing.T, pages int, words ...uint32) bench {
	t.Helper()
	b, e := bus.New(pages, 0, nil)
	if e != api.OK {
		t.Fatal(e)
	}
	h := core.New(7, b)
	if h == nil {
		t.Fatal("New is nil")
	}
	for i, w := range words {
		b.Write(base+uint64(4*i), uint64(w), 4)
	}
	return bench{t, b, h}
}

// program makes a bench whose memory holds an assembled program.
func program(t *testing.T, pages int, lines ...string) bench {
	t.Helper()
	x := fresh(t, pages)
	s, n, e := asm.Assemble(strings.Join(lines, "\n"))
	if e != api.OK {
		t.Fatalf("line %d: %v", n, e)
	}
	x.b.Put(base, s)
	return x
}

func (x bench) lay(change func(f *core.Frame)) {
	x.t.Helper()
	f := x.h.Frame()
	change(&f)
	if e := x.h.Lay(f); e != api.OK {
		x.t.Fatalf("Lay: %v", e)
	}
}

func (x bench) step(want core.Told) {
	x.t.Helper()
	if got := x.h.Step(); got != want {
		x.t.Errorf("Step %+v, want %+v", got, want)
	}
}

func (x bench) retires(n int) {
	x.t.Helper()
	for range n {
		x.step(core.Told{})
	}
}

func faulted(cause uint8, tval uint64) core.Told {
	return core.Told{Outcome: api.Trapped, Trap: api.Trap{Is: true, Cause: cause, Tval: tval}, Cause: cause}
}

func interrupted(cause uint8) core.Told {
	return core.Told{Outcome: api.Trapped, Cause: cause, Interrupt: true}
}

func (x bench) reg(n int, want uint64) {
	x.t.Helper()
	if got := x.h.Frame().Regs[n]; got != want {
		x.t.Errorf("x%d is %#x, want %#x", n, got, want)
	}
}

func (x bench) pc(want uint64) {
	x.t.Helper()
	if got := x.h.Frame().Pc; got != want {
		x.t.Errorf("pc is %#x, want %#x", got, want)
	}
}

func TestP26_1Check(t *testing.T) {
	good := core.Frame{Pc: 6, Mode: 1, Regs: exec.Regs{5: 1}, S: csr.Reset(3), Waiting: true}
	for name, c := range map[string]struct {
		change func(f *core.Frame)
		e      api.Errno
	}{
		"good":             {func(f *core.Frame) {}, api.OK},
		"U":                {func(f *core.Frame) { f.Mode = 0 }, api.OK},
		"M":                {func(f *core.Frame) { f.Mode = 3 }, api.OK},
		"2":                {func(f *core.Frame) { f.Mode = 2 }, api.ErrForm},
		"4":                {func(f *core.Frame) { f.Mode = 4 }, api.ErrForm},
		"255":              {func(f *core.Frame) { f.Mode = 255 }, api.ErrForm},
		"x0":               {func(f *core.Frame) { f.Regs[0] = 1 }, api.ErrForm},
		"an odd pc":        {func(f *core.Frame) { f.Pc = 7 }, api.ErrForm},
		"the greatest pc":  {func(f *core.Frame) { f.Pc = 1<<64 - 2 }, api.OK},
		"a state":          {func(f *core.Frame) { f.S.Mie = 1 }, api.ErrForm},
		"another state":    {func(f *core.Frame) { f.S.Mstatus = 2 << 11 }, api.ErrForm},
		"a state that may": {func(f *core.Frame) { f.S.Mie = 2 }, api.OK},
	} {
		f := good
		c.change(&f)
		if e := core.Check(f); e != c.e {
			t.Errorf("%s: Check %v, want %v", name, e, c.e)
		}
		x := fresh(t, 1)
		before := x.h.Frame()
		want := before
		if c.e == api.OK {
			want = f
		}
		if e := x.h.Lay(f); e != c.e || x.h.Frame() != want {
			t.Errorf("%s: Lay %v, %+v", name, e, x.h.Frame())
		}
	}
}

func TestP26_1FirstNewReset(t *testing.T) {
	for _, pc := range []uint64{0, 1, base, base + 3, 1<<64 - 1} {
		want := core.Frame{Pc: pc - pc%2, Mode: 3, S: api.State{Id: 9}}
		if got := core.First(9, pc); got != want {
			t.Errorf("First: %+v", got)
		}
	}
	x := fresh(t, 1)
	if got := x.h.Frame(); got != core.First(7, base) {
		t.Errorf("New: %+v", got)
	}
	if core.New(1, nil) != nil {
		t.Error("New of nil")
	}
	x.lay(func(f *core.Frame) { f.Regs[5], f.Mode, f.Waiting, f.S.Mscratch = 1, 0, true, 5 })
	x.b.Reserve(base+8, 8)
	x.h.Reset(base + 65)
	if got := x.h.Frame(); got != core.First(7, base+64) {
		t.Errorf("Reset: %+v", got)
	}
	if x.b.Held(base+8, 8) {
		t.Error("Reset left a reservation")
	}
	x.b.Reserve(base+8, 8)
	x.lay(func(f *core.Frame) {})
	if x.b.Held(base+8, 8) {
		t.Error("Lay left a reservation")
	}
	bad := x.h.Frame()
	bad.Pc = 1
	x.b.Reserve(base+8, 8)
	if x.h.Lay(bad) != api.ErrForm || !x.b.Held(base+8, 8) {
		t.Error("a refused Lay did something")
	}
	x.h.Forget()
	if !x.b.Held(base+8, 8) {
		t.Error("Forget took the reservation")
	}
}

func TestP26_1NothingMade(t *testing.T) {
	for name, h := range map[string]*core.Hart{"nil": nil, "not made": {}} {
		h.Reset(4)
		h.Forget()
		if h.Step() != (core.Told{}) || h.Frame() != (core.Frame{}) || h.Dump() != "" {
			t.Errorf("%s: something is there", name)
		}
		if e := h.Lay(core.First(1, 4)); e != api.ErrNil {
			t.Errorf("%s: Lay %v", name, e)
		}
		if e := h.Lay(core.Frame{Pc: 1}); e != api.ErrNil {
			t.Errorf("%s: Lay of what may not be %v", name, e)
		}
	}
}

func TestP26_2Examples(t *testing.T) {
	x := fresh(t, 1, 0x00500093, 0x30509073, 0x00000000)
	x.retires(1)
	x.reg(1, 5)
	x.retires(1)
	if got := x.h.Frame().S.Mtvec; got != 5 {
		t.Errorf("Mtvec %d", got)
	}
	x.step(faulted(2, 0))
	x.pc(4)
	if got := x.h.Frame().S.Mepc; got != base+8 {
		t.Errorf("Mepc %#x", got)
	}
	x = fresh(t, 1, 0x10500073)
	x.retires(1)
	for range 5 {
		x.step(core.Told{Outcome: api.Idle})
		x.pc(base + 4)
	}
	fresh(t, 1, 0x73).step(faulted(11, 0))
	x = fresh(t, 1, 0xb02010f3, 0xb02020f3)
	x.retires(1)
	x.reg(1, 0)
	if got := x.h.Frame().S.Instret; got != 0 {
		t.Errorf("Instret %d", got)
	}
	x.retires(1)
	x.reg(1, 0)
	if got := x.h.Frame().S.Instret; got != 1 {
		t.Errorf("Instret %d", got)
	}
	fresh(t, 1, 3).step(faulted(5, 0))
}

func TestP26_2LoadsAndStores(t *testing.T) {
	x := program(t, 1, "lb x1,64(x9)", "lbu x2,64(x9)", "lh x3,64(x9)", "lhu x4,64(x9)", "lw x5,64(x9)", "lwu x6,64(x9)", "ld x7,64(x9)",
		"sb x7,80(x9)", "sh x7,90(x9)", "sw x7,100(x9)", "sd x7,112(x9)", "ld x0,64(x9)", "lw x8,66(x9)")
	x.lay(func(f *core.Frame) { f.Regs[9] = base })
	x.b.Write(base+64, 0x8182838485868788, 8)
	x.retires(12)
	for n, want := range []uint64{0, 0xffffffffffffff88, 0x88, 0xffffffffffff8788, 0x8788, 0xffffffff85868788, 0x85868788, 0x8182838485868788} {
		x.reg(n, want)
	}
	if s, _ := x.b.Bytes(base+80, 40); s != "\x88"+strings.Repeat("\x00", 9)+"\x88\x87"+strings.Repeat("\x00", 8)+"\x88\x87\x86\x85"+strings.Repeat("\x00", 8)+"\x88\x87\x86\x85\x84\x83\x82\x81" {
		t.Errorf("stored %q", s)
	}
	x.step(faulted(4, base+66))
	x.reg(8, 0)

	x = program(t, 1, "sw x7,2(x9)")
	x.lay(func(f *core.Frame) { f.Regs[9] = base + 64 })
	x.step(faulted(6, base+66))
	x = program(t, 1, "sd x7,0(x9)")
	x.step(faulted(7, 0))
	x = program(t, 1, "lui x5,65536", "addi x6,x0,97", "sb x6,0(x5)", "lw x7,0(x5)")
	x.retires(3)
	if s := x.b.Sent(); s != "a" {
		t.Errorf("sent %q", s)
	}
	x.step(faulted(5, 0x10000000))
}

func TestP26_2FetchAndParcels(t *testing.T) {
	// Four bytes at a multiple of two, and two bytes behind them.
	x := fresh(t, 1)
	x.b.Put(base, "\x05\x45"+"\x93\x00\x50\x00"+"\x82\x80"+"\x00\x00") // c.li a0,1; addi x1,x0,5; c.jr ra
	x.retires(2)
	x.reg(10, 1)
	x.reg(1, 5)
	x.pc(base + 6)
	x.lay(func(f *core.Frame) { f.Regs[1] = base + 9 })
	x.retires(1)
	x.pc(base + 8)
	x.step(faulted(2, 0))       // an illegal parcel of two bytes
	x = fresh(t, 1, 0x12349c41) // of two bytes: its Tval is these alone
	x.step(faulted(2, 0x9c41))
	x = fresh(t, 1, 0xfffff0f7)
	x.step(faulted(2, 0xfffff0f7))
	// The second half is reached by itself.
	x = fresh(t, 1)
	x.b.Write(base+4094, 0x0013, 2)
	x.lay(func(f *core.Frame) { f.Pc = base + 4094 })
	x.step(faulted(1, base+4096))
	if got := x.h.Frame().S.Mepc; got != base+4094 {
		t.Errorf("Mepc %#x", got)
	}
	x = fresh(t, 1)
	x.lay(func(f *core.Frame) { f.Pc = 0x10000000 })
	x.step(faulted(1, 0x10000000))
	// What is written is fetched.
	x = program(t, 1, "sw x5,8(x9)", "fencei", ".word 0")
	x.lay(func(f *core.Frame) { f.Regs[9], f.Regs[5] = base, 0x00500093 })
	x.retires(3)
	x.reg(1, 5)
}

func TestP26_2JumpsAndCounters(t *testing.T) {
	x := program(t, 1, "jal x1,8", ".word 0", "jalr x2,x1,5", "auipc x3,1", "lui x4,-1", "bne x1,x0,-8")
	x.retires(1)
	x.reg(1, base+4)
	x.pc(base + 8)
	x.retires(1)
	x.reg(2, base+12)
	x.pc(base + 8)
	f := x.h.Frame()
	if f.S.Cycle != 2 || f.S.Instret != 2 || x.b.Time() != 2 {
		t.Errorf("Cycle %d, Instret %d, time %d", f.S.Cycle, f.S.Instret, x.b.Time())
	}
	x.lay(func(f *core.Frame) { f.Pc = base + 12 })
	x.retires(3)
	x.reg(3, base+12+4096)
	x.reg(4, 1<<64-4096)
	x.pc(base + 12)
	x = program(t, 1, ".word 0")
	x.h.Step()
	if f := x.h.Frame(); f.S.Cycle != 1 || f.S.Instret != 0 {
		t.Errorf("a trap: Cycle %d, Instret %d", f.S.Cycle, f.S.Instret)
	}
	x = program(t, 1, "csrrwi x0,2816,20", "csrrs x1,2816,x0", "csrrs x2,3072,x0", "csrrs x3,3073,x0", "csrrwi x0,2818,30", "csrrs x4,2818,x0", "csrrs x5,3074,x0", "csrrs x6,2818,x0", "csrrsi x0,2818,0", "csrrs x7,2818,x0")
	x.retires(10)
	for n, want := range map[int]uint64{1: 21, 2: 22, 3: 4, 4: 30, 5: 31, 6: 32, 7: 34} {
		x.reg(n, want)
	}
}

func TestP26_2Atomics(t *testing.T) {
	x := program(t, 1, "lrw x1,x9", "scw x2,x9,x8", "scw x3,x9,x8", "amoaddd x4,x9,x8", "lrd x5,x9", "sb x0,7(x9)", "scd x6,x9,x8", "amominw x7,x9,x8", "lrd x0,x9", "ld x1,0(x9)")
	x.lay(func(f *core.Frame) { f.Regs[9], f.Regs[8] = base+64, 0x1_80000001 })
	x.b.Write(base+64, 0xf0000000, 4)
	x.retires(10)
	for n, want := range map[int]uint64{1: 0x2_80000001, 2: 0, 3: 1, 4: 0x80000001, 5: 0x2_00000002, 6: 1, 7: 2} {
		x.reg(n, want)
	}
	x = program(t, 1, "lrw x1,x9")
	x.b.Write(base+64, 0xf0000000, 4)
	x.lay(func(f *core.Frame) { f.Regs[9] = base + 64 })
	x.retires(1)
	x.reg(1, 0xfffffffff0000000)
	for _, c := range []struct {
		line  string
		at    uint64
		cause uint8
	}{
		{"lrw x1,x9", base + 2, 4}, {"lrd x1,x9", base + 4, 4}, {"scw x1,x9,x8", base + 2, 6}, {"amoaddd x1,x9,x8", base + 4, 6},
		{"lrw x1,x9", 0x10001000, 5}, {"scw x1,x9,x8", 0x10001000, 7}, {"amoswapw x1,x9,x8", 0x10001000, 7}, {"amoswapd x1,x9,x8", 0, 7}, {"lrd x1,x9", base + 4096, 5},
	} {
		x := program(t, 1, c.line)
		x.lay(func(f *core.Frame) { f.Regs[9], f.Regs[1] = c.at, 77 })
		x.step(faulted(c.cause, c.at))
		x.reg(1, 77)
	}
}

func TestP26_2Csrs(t *testing.T) {
	x := program(t, 1, "csrrw x1,832,x8", "csrrs x2,832,x9", "csrrc x3,832,x8", "csrrwi x4,832,31", "csrrsi x5,832,0", "csrrci x6,832,1", "csrrs x7,832,x0", "csrrw x0,832,x0", "csrrs x1,832,x0")
	x.lay(func(f *core.Frame) { f.Regs[8], f.Regs[9] = 0xf0, 0x0f })
	x.retires(9)
	for n, want := range map[int]uint64{1: 0, 2: 0xf0, 3: 0xff, 4: 0x0f, 5: 31, 6: 31, 7: 30} {
		x.reg(n, want)
	}
	// The register is read ahead of what is written; of x1 both.
	x = program(t, 1, "csrrw x1,832,x1", "csrrw x1,832,x1")
	x.lay(func(f *core.Frame) { f.Regs[1] = 5 })
	x.retires(1)
	x.reg(1, 0)
	x.retires(1)
	x.reg(1, 5)
	// Illegal ones change nothing; reads of what may only be read, with x0, are none of them.
	for _, c := range []struct {
		line string
		mode uint8
		ok   bool
	}{
		{"csrrs x1,3860,x0", 3, true}, {"csrrc x1,3860,x0", 3, true}, {"csrrsi x1,3860,0", 3, true}, {"csrrs x1,3860,x9", 3, false}, {"csrrs x1,3860,x8", 3, false}, {"csrrw x1,3860,x0", 3, false}, {"csrrwi x1,3860,0", 3, false}, {"csrrsi x1,3860,1", 3, false}, {"csrrci x1,3860,1", 3, false},
		{"csrrs x1,832,x0", 1, false}, {"csrrw x1,832,x8", 0, false}, {"csrrw x1,320,x8", 1, true}, {"csrrs x1,1984,x0", 3, false}, {"csrrs x1,3072,x0", 1, false},
	} {
		x := program(t, 1, c.line)
		x.lay(func(f *core.Frame) {
			f.Mode, f.Regs[1], f.Regs[8] = c.mode, 99, 1
			f.S.Pmpcfg, f.S.Pmpaddr[0] = 0x1f, 1<<54-1
		})
		before := x.h.Frame()
		parcel, _ := x.b.Read(base, 4)
		if c.ok {
			x.retires(1)
			continue
		}
		x.step(faulted(2, parcel))
		after := x.h.Frame()
		if after.Regs != before.Regs || after.S.Mscratch != 0 || after.S.Mcause != 2 {
			t.Errorf("%s: %+v", c.line, after)
		}
	}
}

func TestP26_2MipHasNoHw(t *testing.T) {
	// A set of bits of mip begins with what software set, not with what devices set.
	x := program(t, 1, "csrrsi x1,836,2", "csrrs x2,836,x0")
	x.b.Line(4, true)
	x.b.Write(0x0c000010, 1, 4)
	x.b.Write(0x0c002080, 16, 4)
	x.retires(2)
	x.reg(1, 1<<9)
	x.reg(2, 1<<9|2)
	if f := x.h.Frame(); f.S.Mip != 2 || f.S.Hw != 1<<9 {
		t.Errorf("Mip %#x, Hw %#x", f.S.Mip, f.S.Hw)
	}
}

func TestP26_2System(t *testing.T) {
	const tvm, tw, tsr = 1 << 20, 1 << 21, 1 << 22
	at := func(line string, mode uint8, status uint64) bench {
		x := program(t, 1, line)
		x.lay(func(f *core.Frame) {
			f.Mode, f.S.Mstatus = mode, status
			f.S.Pmpcfg, f.S.Pmpaddr[0] = 0x1f, 1<<54-1
			f.S.Mepc, f.S.Sepc, f.S.Mtvec = base+64, base+32, base+128
		})
		x.b.Reserve(base+8, 8)
		return x
	}
	for _, c := range []struct {
		line   string
		mode   uint8
		status uint64
		cause  uint8 // 0: it retires
		tval   uint64
		pc     uint64
		to     uint8
	}{
		{"ecall", 0, 0, 8, 0, base + 128, 3}, {"ecall", 1, 0, 9, 0, base + 128, 3}, {"ecall", 3, 0, 11, 0, base + 128, 3}, {"ebreak", 0, 0, 3, base, base + 128, 3}, {"ebreak", 3, 0, 3, base, base + 128, 3},
		{"mret", 3, 1 << 11, 0, 0, base + 64, 1}, {"mret", 3, 0, 0, 0, base + 64, 0}, {"mret", 1, 0, 2, 0x30200073, base + 128, 3}, {"mret", 0, 0, 2, 0x30200073, base + 128, 3},
		{"sret", 3, 1 << 8, 0, 0, base + 32, 1}, {"sret", 1, 0, 0, 0, base + 32, 0}, {"sret", 1, tsr, 2, 0x10200073, base + 128, 3}, {"sret", 3, tsr, 0, 0, base + 32, 0}, {"sret", 0, 0, 2, 0x10200073, base + 128, 3}, {"sret", 1, tw | tvm, 0, 0, base + 32, 0},
		{"wfi", 3, tw, 0, 0, base + 4, 3}, {"wfi", 1, 0, 0, 0, base + 4, 1}, {"wfi", 1, tw, 2, 0x10500073, base + 128, 3}, {"wfi", 0, 0, 2, 0x10500073, base + 128, 3}, {"wfi", 1, tsr | tvm, 0, 0, base + 4, 1},
		{"sfencevma x0,x0", 3, tvm, 0, 0, base + 4, 3}, {"sfencevma x5,x0", 1, 0, 0, 0, base + 4, 1}, {"sfencevma x0,x0", 1, tvm, 2, 0x12000073, base + 128, 3}, {"sfencevma x0,x5", 0, 0, 2, 0x12500073, base + 128, 3}, {"sfencevma x0,x0", 1, tsr | tw, 0, 0, base + 4, 1},
		{"fence", 0, 0, 0, 0, base + 4, 0}, {"fencei", 0, 0, 0, 0, base + 4, 0},
	} {
		x := at(c.line, c.mode, c.status)
		if c.cause == 0 {
			x.retires(1)
		} else {
			x.step(faulted(c.cause, c.tval))
		}
		f := x.h.Frame()
		if f.Pc != c.pc || f.Mode != c.to || f.Waiting != (c.line == "wfi" && c.cause == 0) {
			t.Errorf("%s in %d: pc %#x, mode %d, waits %v", c.line, c.mode, f.Pc, f.Mode, f.Waiting)
		}
		held := x.b.Held(base+8, 8)
		if want := c.cause == 0 && c.line != "mret" && c.line != "sret"; held != want {
			t.Errorf("%s in %d: held %v", c.line, c.mode, held)
		}
	}
}

func TestP26_2Interrupts(t *testing.T) {
	x := program(t, 1, "addi x1,x1,1", "addi x1,x1,1", "wfi", "addi x1,x1,1", "addi x1,x1,1")
	x.lay(func(f *core.Frame) { f.S.Mie, f.S.Mstatus, f.S.Mtvec = 1<<7, 1<<3, base+1024+1 })
	x.b.Write(0x02004000, 2, 8)
	x.b.Reserve(base+8, 8)
	x.retires(1)
	x.step(interrupted(7)) // at the tick that makes the time 2, ahead of the instruction
	x.reg(1, 1)
	x.pc(base + 1024 + 28)
	f := x.h.Frame()
	if f.S.Mepc != base+4 || f.S.Mcause != 1<<63|7 || f.S.Hw != 1<<7 || f.S.Instret != 1 || f.S.Cycle != 2 || x.b.Held(base+8, 8) {
		t.Errorf("%+v", f)
	}
	// It waits; an interrupt that is pending, but masked, wakes it without being taken.
	x = program(t, 1, "wfi", "addi x1,x1,1", "wfi", "addi x1,x1,1")
	x.lay(func(f *core.Frame) { f.S.Mie = 1 << 7 })
	x.b.Write(0x02004000, 4, 8)
	x.retires(1)
	x.step(core.Told{Outcome: api.Idle})
	x.step(core.Told{Outcome: api.Idle})
	x.retires(1) // it is awake, and does an instruction in the same step
	x.reg(1, 1)
	if x.h.Frame().Waiting {
		t.Error("it waits still")
	}
	x.retires(1)
	if !x.h.Frame().Waiting {
		t.Error("it waits whatever is pending")
	}
	x.retires(1)
	x.reg(1, 2)
	// One that may be taken is, out of waiting.
	x = program(t, 1, "wfi", "addi x1,x1,1")
	x.lay(func(f *core.Frame) { f.S.Mie, f.S.Mstatus, f.S.Mtvec = 1<<3, 1<<3, base+64 })
	x.retires(1)
	x.step(core.Told{Outcome: api.Idle})
	x.b.Write(0x02000000, 1, 4)
	x.step(interrupted(3))
	if f := x.h.Frame(); f.Waiting || f.S.Mepc != base+4 || f.Pc != base+64 {
		t.Errorf("%+v", f)
	}
	// An interrupt that is not enabled does not wake it.
	x = program(t, 1, "wfi", "addi x1,x1,1")
	x.b.Write(0x02000000, 1, 4)
	x.retires(1)
	x.step(core.Told{Outcome: api.Idle})
	x.step(core.Told{Outcome: api.Idle})
}

func TestP26_2Dog(t *testing.T) {
	b, _ := bus.New(1, 3, nil)
	h := core.New(0, b)
	b.Write(base, 0x6f, 4) // jal x0,0
	var got []bool
	for range 7 {
		got = append(got, h.Step().Dog)
	}
	for i, dog := range got {
		if dog != (i == 2 || i == 5) {
			t.Errorf("Dog at %d: %v", i, dog)
		}
	}
	h.Step()
	b.Write(base, 0, 4)
	if told := h.Step(); !told.Dog || told.Cause != 2 || !told.Trap.Is { // a trap and the watchdog's end at once
		t.Errorf("%+v", told)
	}
	b.Write(base, 0x10500073, 4)
	h.Reset(base)
	h.Step()
	h.Step()
	if told := h.Step(); told != (core.Told{Outcome: api.Idle, Dog: true}) {
		t.Errorf("%+v", told)
	}
}

func TestP26_3Dump(t *testing.T) {
	x := fresh(t, 1)
	n := uint64(0)
	num := func() uint64 { n++; return n << 32 }
	f := core.Frame{Mode: 1, Waiting: true}
	for i := 1; i < 32; i++ {
		f.Regs[i] = num()
	}
	f.Pc = num()
	s := api.State{Id: num(), Mstatus: 0x2a, Mie: 0x2, Mip: 0x20, Hw: 0x8, Medeleg: 0x1, Mideleg: 0x200, Mtvec: num(), Mepc: num(), Mcause: num(), Mtval: num(), Mscratch: num(), Mcounteren: 1,
		Stvec: num(), Sepc: num(), Scause: num(), Stval: num(), Sscratch: num(), Scounteren: 2, Satp: 8<<60 | 5, Cycle: num(), Instret: num(), Pmpcfg: 0x0f}
	for i := range s.Pmpaddr {
		s.Pmpaddr[i] = num()
	}
	f.S = s
	if e := x.h.Lay(f); e != api.OK {
		t.Fatal(e)
	}
	want := ""
	le := func(l ...uint64) {
		for _, v := range l {
			want += codec.Put(codec.Field{N: v, Width: 8})
		}
	}
	le(f.Regs[1:]...)
	le(f.Pc)
	want += "\x01\x01"
	le(s.Id, s.Mstatus, s.Mie, s.Mip, s.Hw, s.Medeleg, s.Mideleg, s.Mtvec, s.Mepc, s.Mcause, s.Mtval, s.Mscratch, s.Mcounteren)
	le(s.Stvec, s.Sepc, s.Scause, s.Stval, s.Sscratch, s.Scounteren, s.Satp, s.Cycle, s.Instret, s.Pmpcfg)
	le(s.Pmpaddr[:]...)
	if got := x.h.Dump(); got != want+x.b.Dump() {
		t.Errorf("Dump %q\nwant %q", got, want+x.b.Dump())
	}
	if got := x.h.Frame(); got != f {
		t.Errorf("Frame %+v", got)
	}
	f.Waiting, f.Mode = false, 3
	x.h.Lay(f)
	if got := x.h.Dump(); got[256:258] != "\x03\x00" {
		t.Errorf("mode and waiting: %q", got[256:258])
	}
}

func TestP26_4TablesThatAreWritten(t *testing.T) {
	// S runs by tables in page 1 to 3; a block device, and a store of M, write them.
	x := fresh(t, 5)
	x.b.Write(base+0x1000, 0x80002<<10|1, 8)
	x.b.Write(base+0x2000, 0x80003<<10|1, 8)
	x.b.Write(base+0x3000, 0x80000<<10|0xcf, 8)
	x.b.Write(base+0x3008, 0x80004<<10|0xcf, 8)
	x.b.Write(base, 0x00500093, 4)        // addi x1,x0,5
	x.b.Write(base+4, 0xffdff06f, 4)      // jal x0,-4
	x.b.Write(base+0x4000, 0x00700093, 4) // addi x1,x0,7
	x.b.Write(base+0x4004, 0xffdff06f, 4)
	x.lay(func(f *core.Frame) {
		f.Mode, f.Pc, f.S.Satp = 1, 0, 8<<60|0x80001
		f.S.Pmpcfg, f.S.Pmpaddr[0] = 0x1f, 1<<54-1
	})
	x.retires(1)
	x.reg(1, 5)
	x.b.Write(base+0x3000, 0x80004<<10|0xcf, 8)
	x.retires(1) // the jump there, and back
	x.retires(1)
	x.reg(1, 7)
	x.b.Put(base+0x3000, codec.Put(codec.Field{N: 0x80000<<10 | 0xcf, Width: 8}))
	x.retires(2)
	x.reg(1, 5)
	x.b.Put(base+0x3040, codec.Put(codec.Field{N: 0x80004<<10 | 0xcf, Width: 8})+strings.Repeat("\x00", 56))
	x.b.Write(0x10001008, base+0x3040, 8)
	x.b.Write(0x10001010, 2, 4)
	x.retires(2)
	x.b.Write(0x10001008, base+0x3000, 8)
	x.b.Write(0x10001010, 1, 4)
	x.retires(1) // the sector comes at the tick of this step, ahead of its fetch
	x.retires(1)
	x.reg(1, 7)
}

func TestP26_5TrapsChangeNoRegister(t *testing.T) {
	for _, word := range []uint32{0, 3, 0x73, 0x100073, 0x0000b083, 0x0000a0af, 0x00003023, 0xffffffff} {
		x := fresh(t, 1, word)
		x.lay(func(f *core.Frame) {
			for i := 1; i < 32; i++ {
				f.Regs[i] = uint64(i)
			}
		})
		x.b.Watch(func(pa, n uint64) { t.Errorf("%#x writes at %#x", word, pa) })
		before := x.h.Frame()
		if told := x.h.Step(); told.Outcome != api.Trapped || x.h.Frame().Regs != before.Regs {
			t.Errorf("%#x: %+v", word, told)
		}
	}
}

func TestP26_6Idle(t *testing.T) {
	x := program(t, 1, "wfi")
	x.retires(1)
	before := x.h.Frame()
	memory, _ := x.b.Bytes(base, 4096)
	for range 4 {
		x.step(core.Told{Outcome: api.Idle})
		before.S.Cycle++
		if x.h.Frame() != before {
			t.Errorf("an idle step changed the frame: %+v", x.h.Frame())
		}
	}
	if now, _ := x.b.Bytes(base, 4096); now != memory {
		t.Error("an idle step changed the memory")
	}
}
