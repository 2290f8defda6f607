package inst

import "almonry/api"

// form is which fields of an instruction its parcel sets, and what its number may be: from least to most, in steps.
type form struct {
	rd, rs1, rs2, csr bool
	least, most, step int64
	number            func(parcel uint32) int64
}

// piece is bits of a parcel, and the place in the number to which the lowest one goes.
type piece struct{ from, to, at int }

// gather puts a number together.
func gather(parcel uint32, pieces ...piece) int64 {
	var n int64
	for _, p := range pieces {
		n |= int64(bits(parcel, p.from, p.to)) << p.at
	}
	return n
}

// signed takes a number of so many bits as one with a sign.
func signed(n int64, width int) int64 {
	return n << (64 - width) >> (64 - width)
}

// formOf tells an operation's form, by its class where that is enough.
func formOf(op uint8) form {
	switch Class(op) {
	case Arith:
		return formOfArith(op)
	case Loads:
		return formI()
	case Stores:
		return form{rs1: true, rs2: true, least: -2048, most: 2047, step: 1, number: func(p uint32) int64 {
			return signed(gather(p, piece{7, 11, 0}, piece{25, 31, 5}), 12)
		}}
	case Branches:
		return form{rs1: true, rs2: true, least: -4096, most: 4094, step: 2, number: func(p uint32) int64 {
			return signed(gather(p, piece{8, 11, 1}, piece{25, 30, 5}, piece{7, 7, 11}, piece{31, 31, 12}), 13)
		}}
	case Atomics:
		return form{rd: true, rs1: true, rs2: op != api.LRW && op != api.LRD, step: 1, number: nought}
	case Csrs:
		if op >= api.CSRRWI {
			return form{rd: true, csr: true, most: 31, step: 1, number: func(p uint32) int64 { return gather(p, piece{15, 19, 0}) }}
		}
		return form{rd: true, rs1: true, csr: true, step: 1, number: nought}
	}
	switch op {
	case api.JAL:
		return form{rd: true, least: -1 << 20, most: 1<<20 - 2, step: 2, number: func(p uint32) int64 {
			return signed(gather(p, piece{21, 30, 1}, piece{20, 20, 11}, piece{12, 19, 12}, piece{31, 31, 20}), 21)
		}}
	case api.JALR:
		return formI()
	case api.SFENCEVMA:
		return form{rs1: true, rs2: true, step: 1, number: nought}
	}
	return form{step: 1, number: nought}
}

func formOfArith(op uint8) form {
	switch op {
	case api.LUI, api.AUIPC:
		return form{rd: true, least: -1 << 31, most: 1<<31 - 4096, step: 4096, number: func(p uint32) int64 {
			return signed(gather(p, piece{12, 31, 12}), 32)
		}}
	case api.ADDI, api.SLTI, api.SLTIU, api.XORI, api.ORI, api.ANDI, api.ADDIW:
		return formI()
	case api.SLLI, api.SRLI, api.SRAI:
		return form{rd: true, rs1: true, most: 63, step: 1, number: func(p uint32) int64 { return gather(p, piece{20, 25, 0}) }}
	case api.SLLIW, api.SRLIW, api.SRAIW:
		return form{rd: true, rs1: true, most: 31, step: 1, number: func(p uint32) int64 { return gather(p, piece{20, 24, 0}) }}
	}
	return form{rd: true, rs1: true, rs2: true, step: 1, number: nought}
}

func formI() form {
	return form{rd: true, rs1: true, least: -2048, most: 2047, step: 1, number: func(p uint32) int64 {
		return signed(gather(p, piece{20, 31, 0}), 12)
	}}
}

func nought(uint32) int64 { return 0 }

// holds tells whether the form can say all of x.
func (f form) holds(x api.Inst) bool {
	return inReach(f.rd, uint16(x.Rd), 32) && inReach(f.rs1, uint16(x.Rs1), 32) && inReach(f.rs2, uint16(x.Rs2), 32) &&
		inReach(f.csr, x.Csr, 4096) && x.Imm >= f.least && x.Imm <= f.most && x.Imm%f.step == 0
}

// inReach: a field that is set is below its end; one that is not is 0.
func inReach(set bool, v, end uint16) bool {
	return set && v < end || v == 0
}
