package inst

import "almonry/api"

// What f3 tells, where nothing else, or no more than one other field, is fixed beside it.
var (
	branches      = [8]uint8{0: api.BEQ, 1: api.BNE, 4: api.BLT, 5: api.BGE, 6: api.BLTU, 7: api.BGEU}
	loads         = [8]uint8{0: api.LB, 1: api.LH, 2: api.LW, 3: api.LD, 4: api.LBU, 5: api.LHU, 6: api.LWU}
	stores        = [8]uint8{0: api.SB, 1: api.SH, 2: api.SW, 3: api.SD}
	numbered      = [8]uint8{0: api.ADDI, 2: api.SLTI, 3: api.SLTIU, 4: api.XORI, 6: api.ORI, 7: api.ANDI}
	shifts        = [8]uint8{1: api.SLLI, 5: api.SRLI}
	shiftsSigned  = [8]uint8{5: api.SRAI}
	registers     = [8]uint8{api.ADD, api.SLL, api.SLT, api.SLTU, api.XOR, api.SRL, api.OR, api.AND}
	contrary      = [8]uint8{0: api.SUB, 5: api.SRA}
	products      = [8]uint8{api.MUL, api.MULH, api.MULHSU, api.MULHU, api.DIV, api.DIVU, api.REM, api.REMU}
	wordShifts    = [8]uint8{1: api.SLLIW, 5: api.SRLIW}
	wordSigned    = [8]uint8{5: api.SRAIW}
	words         = [8]uint8{0: api.ADDW, 1: api.SLLW, 5: api.SRLW}
	wordsContrary = [8]uint8{0: api.SUBW, 5: api.SRAW}
	wordProducts  = [8]uint8{0: api.MULW, 4: api.DIVW, 5: api.DIVUW, 6: api.REMW, 7: api.REMUW}
	fences        = [8]uint8{0: api.FENCE, 1: api.FENCEI}
	csrs          = [8]uint8{1: api.CSRRW, 2: api.CSRRS, 3: api.CSRRC, 5: api.CSRRWI, 6: api.CSRRSI, 7: api.CSRRCI}
)

// atomics is told by bits 27..31, of four bytes.
var atomics = [32]uint8{
	0: api.AMOADDW, 1: api.AMOSWAPW, 2: api.LRW, 3: api.SCW, 4: api.AMOXORW, 8: api.AMOORW, 12: api.AMOANDW,
	16: api.AMOMINW, 20: api.AMOMAXW, 24: api.AMOMINUW, 28: api.AMOMAXUW,
}

func bits(parcel uint32, from, to int) uint32 {
	return parcel >> from & (1<<(to-from+1) - 1)
}

// operation tells which one a parcel is, or Illegal.
func operation(parcel uint32) uint8 {
	f3 := bits(parcel, 12, 14)
	switch bits(parcel, 0, 6) {
	case 0x37:
		return api.LUI
	case 0x17:
		return api.AUIPC
	case 0x6f:
		return api.JAL
	case 0x67:
		if f3 == 0 {
			return api.JALR
		}
	case 0x63:
		return branches[f3]
	case 0x03:
		return loads[f3]
	case 0x23:
		return stores[f3]
	case 0x13:
		return withNumber(parcel)
	case 0x33:
		return ofRegisters(parcel)
	case 0x1b:
		return wordWithNumber(parcel)
	case 0x3b:
		return ofWords(parcel)
	case 0x0f:
		return fences[f3]
	case 0x73:
		return ofSystem(parcel)
	case 0x2f:
		return ofMemory(parcel)
	}
	return api.Illegal
}

func withNumber(parcel uint32) uint8 {
	f3 := bits(parcel, 12, 14)
	if op := numbered[f3]; op != api.Illegal {
		return op
	}
	switch bits(parcel, 26, 31) {
	case 0:
		return shifts[f3]
	case 16:
		return shiftsSigned[f3]
	}
	return api.Illegal
}

func ofRegisters(parcel uint32) uint8 {
	f3 := bits(parcel, 12, 14)
	switch bits(parcel, 25, 31) {
	case 0:
		return registers[f3]
	case 1:
		return products[f3]
	case 32:
		return contrary[f3]
	}
	return api.Illegal
}

func wordWithNumber(parcel uint32) uint8 {
	f3 := bits(parcel, 12, 14)
	if f3 == 0 {
		return api.ADDIW
	}
	switch bits(parcel, 25, 31) {
	case 0:
		return wordShifts[f3]
	case 32:
		return wordSigned[f3]
	}
	return api.Illegal
}

func ofWords(parcel uint32) uint8 {
	f3 := bits(parcel, 12, 14)
	switch bits(parcel, 25, 31) {
	case 0:
		return words[f3]
	case 1:
		return wordProducts[f3]
	case 32:
		return wordsContrary[f3]
	}
	return api.Illegal
}

func ofSystem(parcel uint32) uint8 {
	switch parcel {
	case 0x73:
		return api.ECALL
	case 0x100073:
		return api.EBREAK
	case 0x10200073:
		return api.SRET
	case 0x10500073:
		return api.WFI
	case 0x30200073:
		return api.MRET
	}
	f3 := bits(parcel, 12, 14)
	if f3 == 0 && bits(parcel, 25, 31) == 9 && bits(parcel, 7, 11) == 0 {
		return api.SFENCEVMA
	}
	return csrs[f3]
}

func ofMemory(parcel uint32) uint8 {
	op := atomics[bits(parcel, 27, 31)]
	if op == api.Illegal || op == api.LRW && bits(parcel, 20, 24) != 0 {
		return api.Illegal
	}
	switch bits(parcel, 12, 14) {
	case 2:
		return op
	case 3: // those of eight bytes stand in the same order
		return op + api.LRD - api.LRW
	}
	return api.Illegal
}
