package core

import (
	"almonry/amo"
	"almonry/api"
	"almonry/csr"
	"almonry/exec"
	"almonry/inst"
	"almonry/mmu"
	"almonry/trap"
)

// Bits of mstatus.
const (
	tvm = 1 << 20
	tw  = 1 << 21
	tsr = 1 << 22
)

const minstret = 0xb02

// doing is an instruction while it is done: where it leads, and whether a write of its own counted it.
type doing struct {
	api.Inst
	parcel  uint32
	next    uint64
	counted bool
}

// deeds is what each class does; what is of none of these is illegal.
func deeds() map[uint8]func(*Hart, *doing) api.Trap {
	return map[uint8]func(*Hart, *doing) api.Trap{
		inst.Arith:    (*Hart).compute,
		inst.Branches: (*Hart).compute,
		inst.Jumps:    (*Hart).compute,
		inst.Loads:    (*Hart).load,
		inst.Stores:   (*Hart).store,
		inst.Atomics:  (*Hart).atomic,
		inst.Csrs:     (*Hart).control,
		inst.Systems:  (*Hart).system,
	}
}

func (d *doing) illegal() api.Trap {
	return api.Trap{Is: true, Cause: api.IllegalInst, Tval: uint64(d.parcel)}
}

func (h *Hart) compute(d *doing) api.Trap {
	d.next, _ = exec.Do(&h.f.Regs, h.f.Pc, d.Inst)
	return api.Trap{}
}

func (h *Hart) load(d *doing) api.Trap {
	va, _ := exec.Addr(&h.f.Regs, d.Inst)
	width := inst.Width(d.Op)
	v, t := h.m.Load(h.f.S, h.f.Mode, va, width)
	if t.Is {
		return t
	}
	if inst.Signed(d.Op) {
		above := 64 - 8*width
		v = uint64(int64(v<<above) >> above)
	}
	h.f.Regs.Set(d.Rd, v)
	return api.Trap{}
}

func (h *Hart) store(d *doing) api.Trap {
	va, _ := exec.Addr(&h.f.Regs, d.Inst)
	x := mmu.Ask{Va: va, Kind: api.Store, Mode: h.f.Mode, Width: inst.Width(d.Op)}
	return h.m.Store(h.f.S, x, h.f.Regs.Get(d.Rs2))
}

func (h *Hart) atomic(d *doing) api.Trap {
	va, _ := exec.Addr(&h.f.Regs, d.Inst)
	x := mmu.Ask{Va: va, Kind: api.Store, Mode: h.f.Mode, Width: inst.Width(d.Op)}
	refused := api.Trap{Is: true, Cause: api.StoreAccess, Tval: va}
	if d.Op == api.LRW || d.Op == api.LRD {
		x.Kind, refused.Cause = api.Load, api.LoadAccess
	}
	pa, t := h.m.Reach(h.f.S, x)
	if t.Is {
		return t
	}
	v, ok := amo.Run(h.b, d.Op, pa, h.f.Regs.Get(d.Rs2))
	if !ok {
		return refused
	}
	h.f.Regs.Set(d.Rd, v)
	return api.Trap{}
}

// control does an operation on a control and status register. It changes nothing ahead of knowing that it may do all of it.
func (h *Hart) control(d *doing) api.Trap {
	time := h.b.Time()
	old, ok := csr.Read(h.f.S, time, d.Csr, h.f.Mode)
	if !ok {
		return d.illegal()
	}
	v, writes := h.operand(d)
	source, _ := csr.Source(h.f.S, time, d.Csr, h.f.Mode)
	switch d.Op {
	case api.CSRRW, api.CSRRWI:
		writes = true
	case api.CSRRS, api.CSRRSI:
		v |= source
	case api.CSRRC, api.CSRRCI:
		v = source &^ v
	}
	if writes {
		s, ok := csr.Write(h.f.S, d.Csr, h.f.Mode, v)
		if !ok {
			return d.illegal()
		}
		h.f.S = s
		d.counted = d.Csr == minstret
	}
	h.f.Regs.Set(d.Rd, old)
	return api.Trap{}
}

// operand tells a CSR operation's, and whether one that sets or clears bits writes at all: not of x0, nor of the number 0.
func (h *Hart) operand(d *doing) (v uint64, writes bool) {
	if d.Op >= api.CSRRWI {
		return uint64(d.Imm), d.Imm != 0
	}
	return h.f.Regs.Get(d.Rs1), d.Rs1 != 0
}

func (h *Hart) system(d *doing) api.Trap {
	mode, status := h.f.Mode, h.f.S.Mstatus
	switch d.Op {
	case api.ECALL:
		return api.Trap{Is: true, Cause: api.EcallU + mode}
	case api.EBREAK:
		return api.Trap{Is: true, Cause: api.Breakpoint, Tval: h.f.Pc}
	case api.MRET:
		if mode != api.M {
			return d.illegal()
		}
		h.f.S, h.f.Mode, d.next = trap.Mret(h.f.S)
		h.b.Drop()
	case api.SRET:
		if !mayManage(mode, status&tsr) {
			return d.illegal()
		}
		h.f.S, h.f.Mode, d.next = trap.Sret(h.f.S, mode)
		h.b.Drop()
	case api.WFI:
		if !mayManage(mode, status&tw) {
			return d.illegal()
		}
		h.f.Waiting = true
	case api.SFENCEVMA:
		if !mayManage(mode, status&tvm) {
			return d.illegal()
		}
		h.fence(d.Rs1)
	}
	return api.Trap{}
}

// mayManage tells whether a mode may do what U may not, and S only if M does not trap it.
func mayManage(mode uint8, trapped uint64) bool {
	return mode == api.M || mode == api.S && trapped == 0
}

func (h *Hart) fence(rs1 uint8) {
	if rs1 == 0 {
		h.m.Flush()
		return
	}
	h.m.Drop(h.f.Regs.Get(rs1))
}
