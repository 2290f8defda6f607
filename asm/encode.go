package asm

import (
	"almonry/api"
	"almonry/inst"
)

// fixed is what is fixed of each operation's parcel.
var fixed = [api.Ops]uint32{
	api.LUI: 0x37, api.AUIPC: 0x17, api.JAL: 0x6f, api.JALR: 0x67,
	api.BEQ: 0x0063, api.BNE: 0x1063, api.BLT: 0x4063, api.BGE: 0x5063, api.BLTU: 0x6063, api.BGEU: 0x7063,
	api.LB: 0x0003, api.LH: 0x1003, api.LW: 0x2003, api.LD: 0x3003, api.LBU: 0x4003, api.LHU: 0x5003, api.LWU: 0x6003,
	api.SB: 0x0023, api.SH: 0x1023, api.SW: 0x2023, api.SD: 0x3023,
	api.ADDI: 0x0013, api.SLTI: 0x2013, api.SLTIU: 0x3013, api.XORI: 0x4013, api.ORI: 0x6013, api.ANDI: 0x7013,
	api.SLLI: 0x1013, api.SRLI: 0x5013, api.SRAI: 0x40005013,
	api.ADD: 0x0033, api.SUB: 0x40000033, api.SLL: 0x1033, api.SLT: 0x2033, api.SLTU: 0x3033,
	api.XOR: 0x4033, api.SRL: 0x5033, api.SRA: 0x40005033, api.OR: 0x6033, api.AND: 0x7033,
	api.ADDIW: 0x001b, api.SLLIW: 0x101b, api.SRLIW: 0x501b, api.SRAIW: 0x4000501b,
	api.ADDW: 0x003b, api.SUBW: 0x4000003b, api.SLLW: 0x103b, api.SRLW: 0x503b, api.SRAW: 0x4000503b,
	api.FENCE: 0x000f, api.FENCEI: 0x100f, api.ECALL: 0x73, api.EBREAK: 0x100073,
	api.MUL: 0x02000033, api.MULH: 0x02001033, api.MULHSU: 0x02002033, api.MULHU: 0x02003033,
	api.DIV: 0x02004033, api.DIVU: 0x02005033, api.REM: 0x02006033, api.REMU: 0x02007033,
	api.MULW: 0x0200003b, api.DIVW: 0x0200403b, api.DIVUW: 0x0200503b, api.REMW: 0x0200603b, api.REMUW: 0x0200703b,
	api.LRW: 0x1000202f, api.SCW: 0x1800202f, api.AMOSWAPW: 0x0800202f, api.AMOADDW: 0x0000202f, api.AMOXORW: 0x2000202f, api.AMOANDW: 0x6000202f,
	api.AMOORW: 0x4000202f, api.AMOMINW: 0x8000202f, api.AMOMAXW: 0xa000202f, api.AMOMINUW: 0xc000202f, api.AMOMAXUW: 0xe000202f,
	api.LRD: 0x1000302f, api.SCD: 0x1800302f, api.AMOSWAPD: 0x0800302f, api.AMOADDD: 0x0000302f, api.AMOXORD: 0x2000302f, api.AMOANDD: 0x6000302f,
	api.AMOORD: 0x4000302f, api.AMOMIND: 0x8000302f, api.AMOMAXD: 0xa000302f, api.AMOMINUD: 0xc000302f, api.AMOMAXUD: 0xe000302f,
	api.CSRRW: 0x1073, api.CSRRS: 0x2073, api.CSRRC: 0x3073, api.CSRRWI: 0x5073, api.CSRRSI: 0x6073, api.CSRRCI: 0x7073,
	api.MRET: 0x30200073, api.SRET: 0x10200073, api.WFI: 0x10500073, api.SFENCEVMA: 0x12000073,
}

// Encode tells the parcel that decodes to x. What its form can't say comes out as another instruction, and so is found.
func Encode(x api.Inst) (uint32, api.Errno) {
	if x.Op >= api.Ops {
		return 0, api.ErrForm
	}
	p := uint32(x.Imm)
	if x.Op != api.Illegal {
		p = fixed[x.Op] | uint32(x.Rd)<<7 | uint32(x.Rs1)<<15 | uint32(x.Rs2)<<20 | uint32(x.Csr)<<20 | scatter(x)
	}
	if inst.Decode(p) != x {
		return 0, api.ErrForm
	}
	return p, api.OK
}

// scatter lays a number's bits where the operation's form has them.
func scatter(x api.Inst) uint32 {
	n := uint32(x.Imm)
	switch formOf(x.Op) {
	case formI, formLoad:
		return n << 20
	case formStore:
		return n&31<<7 | n>>5<<25
	case formB:
		return n>>11&1<<7 | n>>1&15<<8 | n>>5&63<<25 | n>>12&1<<31
	case formUp:
		return n
	case formJ:
		return n>>12&255<<12 | n>>11&1<<20 | n>>1&1023<<21 | n>>20&1<<31
	case formCn:
		return n << 15
	}
	return 0
}
