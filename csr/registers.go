package csr

import (
	"strconv"

	"almonry/api"
)

// register is one: how it is called, what is read of it, and what a write does.
type register struct {
	name  string
	read  func(s *api.State, time uint64) uint64
	write func(s *api.State, v uint64)
}

// field reaches one of a state.
type field func(s *api.State) *uint64

// whole is a register that is a field, of which a write keeps some bits.
func whole(name string, f field, kept uint64) register {
	return register{
		name:  name,
		read:  func(s *api.State, _ uint64) uint64 { return *f(s) },
		write: func(s *api.State, v uint64) { *f(s) = v & kept },
	}
}

// constant is a register that a write leaves as it is.
func constant(name string, v uint64) register {
	return register{name, func(*api.State, uint64) uint64 { return v }, keep}
}

func keep(*api.State, uint64) {}

// registers finds by an address the table in which the register would stand: one table of all would be made anew at each access.
func registers(addr uint16) map[uint16]register {
	switch addr >> 8 {
	case 0x1:
		return supervisor()
	case 0x3:
		if Memory(addr) {
			return protection(addr)
		}
		return machine()
	case 0xb:
		return counters()
	case 0xc:
		return views()
	case 0xf:
		return identity()
	}
	return nil
}

func machine() map[uint16]register {
	return map[uint16]register{
		0x300: {"mstatus", readMstatus, writeMstatus},
		0x301: constant("misa", 0x8000000000141105),
		0x302: whole("medeleg", func(s *api.State) *uint64 { return &s.Medeleg }, keptMedeleg),
		0x303: whole("mideleg", func(s *api.State) *uint64 { return &s.Mideleg }, keptMideleg),
		0x304: whole("mie", func(s *api.State) *uint64 { return &s.Mie }, keptMie),
		0x305: whole("mtvec", func(s *api.State) *uint64 { return &s.Mtvec }, keptTvec),
		0x306: whole("mcounteren", func(s *api.State) *uint64 { return &s.Mcounteren }, keptCounter),
		0x340: whole("mscratch", func(s *api.State) *uint64 { return &s.Mscratch }, keptAll),
		0x341: whole("mepc", func(s *api.State) *uint64 { return &s.Mepc }, keptEpc),
		0x342: whole("mcause", func(s *api.State) *uint64 { return &s.Mcause }, keptAll),
		0x343: whole("mtval", func(s *api.State) *uint64 { return &s.Mtval }, keptAll),
		0x344: {"mip", readMip, func(s *api.State, v uint64) { s.Mip = v & keptMip }},
	}
}

func supervisor() map[uint16]register {
	return map[uint16]register{
		0x100: {"sstatus", readSstatus, func(s *api.State, v uint64) { change(&s.Mstatus, keptSstatus, v) }},
		0x104: {"sie", func(s *api.State, _ uint64) uint64 { return s.Mie & s.Mideleg }, func(s *api.State, v uint64) { change(&s.Mie, s.Mideleg, v) }},
		0x105: whole("stvec", func(s *api.State) *uint64 { return &s.Stvec }, keptTvec),
		0x106: whole("scounteren", func(s *api.State) *uint64 { return &s.Scounteren }, keptCounter),
		0x140: whole("sscratch", func(s *api.State) *uint64 { return &s.Sscratch }, keptAll),
		0x141: whole("sepc", func(s *api.State) *uint64 { return &s.Sepc }, keptEpc),
		0x142: whole("scause", func(s *api.State) *uint64 { return &s.Scause }, keptAll),
		0x143: whole("stval", func(s *api.State) *uint64 { return &s.Stval }, keptAll),
		0x144: {"sip", func(s *api.State, time uint64) uint64 { return readMip(s, time) & s.Mideleg }, func(s *api.State, v uint64) { change(&s.Mip, s.Mideleg&(1<<api.SSI), v) }},
		satp:  {"satp", func(s *api.State, _ uint64) uint64 { return s.Satp }, writeSatp},
	}
}

// protection is pmpcfg0, or the one of pmpaddr0 to 7 that has the address.
func protection(addr uint16) map[uint16]register {
	if addr == pmpcfg0 {
		return map[uint16]register{pmpcfg0: {"pmpcfg0", func(s *api.State, _ uint64) uint64 { return s.Pmpcfg }, writePmpcfg}}
	}
	i := int(addr - pmpaddr0)
	return map[uint16]register{addr: {
		"pmpaddr" + strconv.Itoa(i),
		func(s *api.State, _ uint64) uint64 { return s.Pmpaddr[i] },
		func(s *api.State, v uint64) { writePmpaddr(s, i, v) },
	}}
}

func counters() map[uint16]register {
	return map[uint16]register{
		0xb00: whole("mcycle", func(s *api.State) *uint64 { return &s.Cycle }, keptAll),
		0xb02: whole("minstret", func(s *api.State) *uint64 { return &s.Instret }, keptAll),
	}
}

func views() map[uint16]register {
	return map[uint16]register{
		cycle:   {"cycle", func(s *api.State, _ uint64) uint64 { return s.Cycle }, keep},
		0xc01:   {"time", func(_ *api.State, time uint64) uint64 { return time }, keep},
		instret: {"instret", func(s *api.State, _ uint64) uint64 { return s.Instret }, keep},
	}
}

func identity() map[uint16]register {
	return map[uint16]register{
		0xf11: constant("mvendorid", 0),
		0xf12: constant("marchid", 0),
		0xf13: constant("mimpid", 0),
		0xf14: {"mhartid", func(s *api.State, _ uint64) uint64 { return s.Id }, keep},
	}
}

// change lays some bits of a number.
func change(to *uint64, bits, v uint64) {
	*to = *to&^bits | v&bits
}

// Both status registers tell that S and U, as far as the mode sees them, are of 64 bits.
func readMstatus(s *api.State, _ uint64) uint64 { return s.Mstatus | 2<<32 | 2<<34 }

func readSstatus(s *api.State, _ uint64) uint64 { return s.Mstatus&keptSstatus | 2<<32 }

func writeMstatus(s *api.State, v uint64) {
	s.Mstatus = v & keptMstatus
	if s.Mstatus&mpp == 2<<11 { // there is no mode 2
		s.Mstatus &^= mpp
	}
}

func readMip(s *api.State, _ uint64) uint64 { return s.Mip | s.Hw }

func writeSatp(s *api.State, v uint64) {
	if satpMayBe(v) {
		s.Satp = v
	}
}

func writePmpcfg(s *api.State, v uint64) {
	var locked uint64
	for i := range api.Entries {
		if s.Pmpcfg>>(8*i)&pmpL != 0 {
			locked |= 0xff << (8 * i)
		}
	}
	s.Pmpcfg = s.Pmpcfg&locked | pmpKept(v)&^locked
}

// writePmpaddr leaves the address of an entry that is locked, and one that is the beginning of a locked range: the next entry's.
func writePmpaddr(s *api.State, i int, v uint64) {
	cfg := s.Pmpcfg >> (8 * i)
	next := cfg >> 8
	if cfg&pmpL == 0 && (next&pmpL == 0 || next&pmpKind != pmpTor) {
		s.Pmpaddr[i] = v & keptPmpaddr
	}
}
