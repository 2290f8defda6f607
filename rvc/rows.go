package rvc

import "almonry/api"

// What is fixed: q and f3 always; of some rows bits 10..11, of some 5..6 and 12, too, of others bit 12, or the whole lower half but rd.
const (
	fixKind  = 0xe003
	fixTwo   = 0xec03
	fixFour  = 0xfc63
	fixBit12 = 0xf003
	fixNoRs2 = 0xf07f
	fixRd    = 0xef83
	fixAll   = 0xffff
)

// rows tells those of one q and f3: asking all of them would cost each parcel a table of thirty.
func rows(q, f3 uint16) []row {
	switch q {
	case 0:
		return rows0(f3)
	case 1:
		if f3 < 4 {
			return rows1(f3)
		}
		return rows1Upper(f3)
	case 2:
		return rows2(f3)
	}
	return nil
}

func rows0(f3 uint16) []row {
	rd, rs1 := register{2, 3, 8}, register{7, 3, 8}
	four := number{pieces: []piece{{10, 12, 3}, {6, 6, 2}, {5, 5, 6}}}
	eight := number{pieces: []piece{{10, 12, 3}, {5, 6, 6}}}
	switch f3 {
	case 0:
		n := number{pieces: []piece{{11, 12, 4}, {7, 10, 6}, {6, 6, 2}, {5, 5, 3}}}
		return []row{{fixKind, 0x0000, func(p uint16) bool { return n.of(p) != 0 }, api.ADDI, rd, fixed(2), none(), n}}
	case 2:
		return []row{{fixKind, 0x4000, always, api.LW, rd, rs1, none(), four}}
	case 3:
		return []row{{fixKind, 0x6000, always, api.LD, rd, rs1, none(), eight}}
	case 6:
		return []row{{fixKind, 0xc000, always, api.SW, none(), rs1, rd, four}}
	case 7:
		return []row{{fixKind, 0xe000, always, api.SD, none(), rs1, rd, eight}}
	}
	return nil
}

func rows1(f3 uint16) []row {
	rd := register{7, 5, 0}
	n6 := number{6, []piece{{2, 6, 0}, {12, 12, 5}}}
	switch f3 {
	case 0:
		return []row{{fixKind, 0x0001, always, api.ADDI, rd, rd, none(), n6}}
	case 1:
		return []row{{fixKind, 0x2001, rdSet, api.ADDIW, rd, rd, none(), n6}}
	case 2:
		return []row{{fixKind, 0x4001, always, api.ADDI, rd, none(), none(), n6}}
	}
	n := number{10, []piece{{12, 12, 9}, {6, 6, 4}, {5, 5, 6}, {3, 4, 7}, {2, 2, 5}}}
	upper := number{18, []piece{{2, 6, 12}, {12, 12, 17}}} // n6 times 4096
	return []row{
		{fixRd, 0x6101, func(p uint16) bool { return n.of(p) != 0 }, api.ADDI, fixed(2), fixed(2), none(), n},
		{fixKind, 0x6001, func(p uint16) bool { return rd.of(p) != 2 && n6.of(p) != 0 }, api.LUI, rd, none(), none(), upper},
	}
}

func rows1Upper(f3 uint16) []row {
	rd, rs2 := register{7, 3, 8}, register{2, 3, 8}
	pieces := []piece{{2, 6, 0}, {12, 12, 5}}
	n6, sh := number{6, pieces}, number{0, pieces}
	jump := number{12, []piece{{12, 12, 11}, {11, 11, 4}, {9, 10, 8}, {8, 8, 10}, {7, 7, 6}, {6, 6, 7}, {3, 5, 1}, {2, 2, 5}}}
	branch := number{9, []piece{{12, 12, 8}, {10, 11, 3}, {5, 6, 6}, {3, 4, 1}, {2, 2, 5}}}
	switch f3 {
	case 5:
		return []row{{fixKind, 0xa001, always, api.JAL, none(), none(), none(), jump}}
	case 6:
		return []row{{fixKind, 0xc001, always, api.BEQ, none(), rd, none(), branch}}
	case 7:
		return []row{{fixKind, 0xe001, always, api.BNE, none(), rd, none(), branch}}
	}
	return []row{
		{fixTwo, 0x8001, always, api.SRLI, rd, rd, none(), sh},
		{fixTwo, 0x8401, always, api.SRAI, rd, rd, none(), sh},
		{fixTwo, 0x8801, always, api.ANDI, rd, rd, none(), n6},
		{fixFour, 0x8c01, always, api.SUB, rd, rd, rs2, nothing()},
		{fixFour, 0x8c21, always, api.XOR, rd, rd, rs2, nothing()},
		{fixFour, 0x8c41, always, api.OR, rd, rd, rs2, nothing()},
		{fixFour, 0x8c61, always, api.AND, rd, rd, rs2, nothing()},
		{fixFour, 0x9c01, always, api.SUBW, rd, rd, rs2, nothing()},
		{fixFour, 0x9c21, always, api.ADDW, rd, rd, rs2, nothing()},
	}
}

func rows2(f3 uint16) []row {
	rd, rs2 := register{7, 5, 0}, register{2, 5, 0}
	switch f3 {
	case 0:
		return []row{{fixKind, 0x0002, always, api.SLLI, rd, rd, none(), number{0, []piece{{2, 6, 0}, {12, 12, 5}}}}}
	case 2:
		n := number{0, []piece{{12, 12, 5}, {4, 6, 2}, {2, 3, 6}}}
		return []row{{fixKind, 0x4002, rdSet, api.LW, rd, fixed(2), none(), n}}
	case 3:
		n := number{0, []piece{{12, 12, 5}, {5, 6, 3}, {2, 4, 6}}}
		return []row{{fixKind, 0x6002, rdSet, api.LD, rd, fixed(2), none(), n}}
	case 4:
		return []row{
			{fixNoRs2, 0x8002, rdSet, api.JALR, none(), rd, none(), nothing()},
			{fixBit12, 0x8002, rs2Set, api.ADD, rd, none(), rs2, nothing()},
			{fixAll, 0x9002, always, api.EBREAK, none(), none(), none(), nothing()},
			{fixNoRs2, 0x9002, rdSet, api.JALR, fixed(1), rd, none(), nothing()},
			{fixBit12, 0x9002, rs2Set, api.ADD, rd, rd, rs2, nothing()},
		}
	case 6:
		n := number{0, []piece{{9, 12, 2}, {7, 8, 6}}}
		return []row{{fixKind, 0xc002, always, api.SW, none(), fixed(2), rs2, n}}
	case 7:
		n := number{0, []piece{{10, 12, 3}, {7, 9, 6}}}
		return []row{{fixKind, 0xe002, always, api.SD, none(), fixed(2), rs2, n}}
	}
	return nil
}

func fixed(n uint8) register { return register{more: n} }

func nothing() number { return number{} }

func always(uint16) bool { return true }

func rdSet(parcel uint16) bool { return bits(parcel, 7, 11) != 0 }

func rs2Set(parcel uint16) bool { return bits(parcel, 2, 6) != 0 }

// none is a register that is not told: 0.
func none() register { return register{} }
