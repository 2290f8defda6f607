package rvc_test

import (
	"testing"

	"almonry/api"
	"almonry/rvc"
)

// number puts a number together bit by bit: the parcel's bits that make it, from its highest bit on; -1 is a 0.
func number(p int, signed bool, places ...int) int64 {
	var n int64
	for i, place := range places {
		b := int64(0)
		if place >= 0 {
			b = int64(p >> place & 1)
		}
		if i == 0 && signed {
			b = -b
		}
		n = 2*n + b
	}
	return n
}

func made(op, rd, rs1, rs2 int, imm int64) api.Inst {
	return api.Inst{Op: uint8(op), Rd: uint8(rd), Rs1: uint8(rs1), Rs2: uint8(rs2), Imm: imm, Size: 2}
}

// model tells what the chapter's table does, row by row.
func model(p int) api.Inst {
	var x api.Inst
	switch p & 3 {
	case 0:
		x = model0(p)
	case 1:
		x = model1(p)
	case 2:
		x = model2(p)
	}
	if x.Op == api.Illegal {
		return api.Inst{Imm: int64(p), Size: 2}
	}
	return x
}

func model0(p int) api.Inst {
	high, low := p>>7&7+8, p>>2&7+8
	four, eight := number(p, false, 5, 12, 11, 10, 6, -1, -1), number(p, false, 6, 5, 12, 11, 10, -1, -1, -1)
	switch p >> 13 {
	case 0:
		if n := number(p, false, 10, 9, 8, 7, 12, 11, 5, 6, -1, -1); n != 0 {
			return made(api.ADDI, low, 2, 0, n)
		}
	case 2:
		return made(api.LW, low, high, 0, four)
	case 3:
		return made(api.LD, low, high, 0, eight)
	case 6:
		return made(api.SW, 0, high, low, four)
	case 7:
		return made(api.SD, 0, high, low, eight)
	}
	return api.Inst{}
}

func model1(p int) api.Inst {
	rd := p >> 7 & 31
	n6 := number(p, true, 12, 6, 5, 4, 3, 2)
	branch := number(p, true, 12, 6, 5, 2, 11, 10, 4, 3, -1)
	switch p >> 13 {
	case 0:
		return made(api.ADDI, rd, rd, 0, n6)
	case 1:
		if rd != 0 {
			return made(api.ADDIW, rd, rd, 0, n6)
		}
	case 2:
		return made(api.ADDI, rd, 0, 0, n6)
	case 3:
		if n := number(p, true, 12, 4, 3, 5, 2, 6, -1, -1, -1, -1); rd == 2 && n != 0 {
			return made(api.ADDI, 2, 2, 0, n)
		}
		if rd != 2 && n6 != 0 {
			return made(api.LUI, rd, 0, 0, n6*4096)
		}
	case 4:
		return modelArith(p)
	case 5:
		return made(api.JAL, 0, 0, 0, number(p, true, 12, 8, 10, 9, 6, 7, 2, 11, 5, 4, 3, -1))
	case 6:
		return made(api.BEQ, 0, p>>7&7+8, 0, branch)
	case 7:
		return made(api.BNE, 0, p>>7&7+8, 0, branch)
	}
	return api.Inst{}
}

func modelArith(p int) api.Inst {
	high, low := p>>7&7+8, p>>2&7+8
	n6, sh := number(p, true, 12, 6, 5, 4, 3, 2), number(p, false, 12, 6, 5, 4, 3, 2)
	switch p >> 10 & 3 {
	case 0:
		return made(api.SRLI, high, high, 0, sh)
	case 1:
		return made(api.SRAI, high, high, 0, sh)
	case 2:
		return made(api.ANDI, high, high, 0, n6)
	}
	ops := [8]int{api.SUB, api.XOR, api.OR, api.AND, api.SUBW, api.ADDW, api.Illegal, api.Illegal}
	if op := ops[p>>12&1*4+p>>5&3]; op != api.Illegal {
		return made(op, high, high, low, 0)
	}
	return api.Inst{}
}

func model2(p int) api.Inst {
	rd, rs2 := p>>7&31, p>>2&31
	switch p >> 13 {
	case 0:
		return made(api.SLLI, rd, rd, 0, number(p, false, 12, 6, 5, 4, 3, 2))
	case 2:
		if rd != 0 {
			return made(api.LW, rd, 2, 0, number(p, false, 3, 2, 12, 6, 5, 4, -1, -1))
		}
	case 3:
		if rd != 0 {
			return made(api.LD, rd, 2, 0, number(p, false, 4, 3, 2, 12, 6, 5, -1, -1, -1))
		}
	case 4:
		return modelMove(p)
	case 6:
		return made(api.SW, 0, 2, rs2, number(p, false, 8, 7, 12, 11, 10, 9, -1, -1))
	case 7:
		return made(api.SD, 0, 2, rs2, number(p, false, 9, 8, 7, 12, 11, 10, -1, -1, -1))
	}
	return api.Inst{}
}

func modelMove(p int) api.Inst {
	rd, rs2, bit12 := p>>7&31, p>>2&31, p>>12&1
	switch {
	case bit12 == 0 && rs2 == 0 && rd != 0:
		return made(api.JALR, 0, rd, 0, 0)
	case bit12 == 0 && rs2 != 0:
		return made(api.ADD, rd, 0, rs2, 0)
	case bit12 == 1 && rs2 == 0 && rd == 0:
		return made(api.EBREAK, 0, 0, 0, 0)
	case bit12 == 1 && rs2 == 0:
		return made(api.JALR, 1, rd, 0, 0)
	case bit12 == 1:
		return made(api.ADD, rd, rd, rs2, 0)
	}
	return api.Inst{}
}

func TestP4_1Decode(t *testing.T) {
	for p := range 1 << 16 {
		if got, want := rvc.Decode(uint16(p)), model(p); got != want {
			t.Errorf("Decode(%#04x) = %+v, want %+v", p, got, want)
		}
	}
}

func TestP4_1Examples(t *testing.T) {
	for p, want := range map[uint16]api.Inst{
		0x0001: made(api.ADDI, 0, 0, 0, 0), 0x4505: made(api.ADDI, 10, 0, 0, 1), 0x157d: made(api.ADDI, 10, 10, 0, -1),
		0x0040: made(api.ADDI, 8, 2, 0, 4), 0x7139: made(api.ADDI, 2, 2, 0, -64), 0x6585: made(api.LUI, 11, 0, 0, 4096),
		0x4198: made(api.LW, 14, 11, 0, 0), 0xc198: made(api.SW, 0, 11, 14, 0), 0x6188: made(api.LD, 10, 11, 0, 0),
		0x8082: made(api.JALR, 0, 1, 0, 0), 0x9582: made(api.JALR, 1, 11, 0, 0), 0x852e: made(api.ADD, 10, 0, 11, 0),
		0x952e: made(api.ADD, 10, 10, 11, 0), 0x9002: made(api.EBREAK, 0, 0, 0, 0),
		0xbff5: made(api.JAL, 0, 0, 0, -4), 0xc119: made(api.BEQ, 0, 10, 0, 6), 0xfd75: made(api.BNE, 0, 10, 0, -4),
		0x8905: made(api.ANDI, 10, 10, 0, 1), 0x8d0d: made(api.SUB, 10, 10, 11, 0), 0x9d2d: made(api.ADDW, 10, 10, 11, 0),
		0x050e: made(api.SLLI, 10, 10, 0, 3), 0x4502: made(api.LW, 10, 2, 0, 0), 0xe42a: made(api.SD, 0, 2, 10, 8),
	} {
		if got := rvc.Decode(p); got != want {
			t.Errorf("Decode(%#04x) = %+v, want %+v", p, got, want)
		}
	}
	for _, p := range []uint16{0x0000, 0x2000, 0x2001, 0x6101, 0x6501, 0x9c41, 0x8002, 0x4002, 0x0003, 0xffff} {
		if got := rvc.Decode(p); got != (api.Inst{Imm: int64(p), Size: 2}) {
			t.Errorf("Decode(%#04x) = %+v, want illegal", p, got)
		}
	}
}

// least tells of each instruction the least parcel that stands for it.
func least() map[api.Inst]uint16 {
	m := map[api.Inst]uint16{}
	for p := 1<<16 - 1; p >= 0; p-- {
		if x := model(p); x.Op != api.Illegal {
			m[x] = uint16(p)
		}
	}
	return m
}

func TestP4_2Encode(t *testing.T) {
	for x, want := range least() {
		if got, e := rvc.Encode(x); got != want || e != api.OK {
			t.Errorf("Encode(%+v) = %#04x, %v; want %#04x", x, got, e, want)
		}
	}
}

func TestP4_2EncodeOfOthers(t *testing.T) {
	m := least()
	try := func(x api.Inst) {
		t.Helper()
		want, ok := m[x]
		got, e := rvc.Encode(x)
		if ok && (got != want || e != api.OK) || !ok && (got != 0 || e != api.ErrForm) {
			t.Fatalf("Encode(%+v) = %#04x, %v; want %#04x, %v", x, got, e, want, ok)
		}
	}
	for p := 0; p < 1<<16; p += 7 { // each with one field changed
		x := model(p)
		for _, d := range []uint8{1, 8, 32, 128, 255} {
			y := x
			y.Rd += d
			try(y)
			y = x
			y.Rs1 += d
			try(y)
			y = x
			y.Rs2 += d
			try(y)
			y = x
			y.Size += d
			try(y)
			y = x
			y.Csr = uint16(d) << 4
			try(y)
		}
		for _, d := range []int64{1, -1, 2, 4, 32, 64, -64, 256, 512, 2048, 65536, 1 << 18, 1 << 62} {
			y := x
			y.Imm += d
			try(y)
		}
	}
	for op := range 256 {
		try(made(op, 0, 0, 0, 0))
		try(made(op, 10, 10, 11, 0))
		try(made(op, 1, 2, 3, 4))
	}
}

func TestP4_2Examples(t *testing.T) {
	if p, e := rvc.Encode(made(api.ADDI, 10, 10, 0, -1)); p != 0x157d || e != api.OK {
		t.Errorf("Encode of ADDI x10, x10, -1 = %#04x, %v", p, e)
	}
	if p, e := rvc.Encode(made(api.ADD, 0, 0, 0, 0)); p != 0 || e != api.ErrForm {
		t.Errorf("Encode of ADD x0, x0, x0 = %#04x, %v", p, e)
	}
	for _, p := range []uint16{0, 3, 0x8002} {
		if q, e := rvc.Encode(rvc.Decode(p)); q != 0 || e != api.ErrForm {
			t.Errorf("Encode of what is illegal, %#04x: %#04x, %v", p, q, e)
		}
	}
	// Of parcels that stand for the same, the least one.
	if p, e := rvc.Encode(made(api.ADDI, 2, 2, 0, 16)); p != 0x0141 || e != api.OK {
		t.Errorf("Encode of ADDI x2, x2, 16 = %#04x, %v; want 0x0141", p, e)
	}
}

func TestP4_3UndoOneAnother(t *testing.T) {
	for p := range 1 << 16 {
		x := rvc.Decode(uint16(p))
		q, e := rvc.Encode(x)
		if x.Op == api.Illegal {
			if q != 0 || e != api.ErrForm {
				t.Fatalf("Encode of the illegal %#04x: %#04x, %v", p, q, e)
			}
			continue
		}
		if e != api.OK || int(q) > p || rvc.Decode(q) != x {
			t.Fatalf("%#04x: %+v, encoded as %#04x, %v", p, x, q, e)
		}
	}
}

func TestP4_4Numbers(t *testing.T) {
	for p := range 1 << 16 {
		x := rvc.Decode(uint16(p))
		bad := x.Size != 2 || x.Csr != 0 || x.Rd > 31 || x.Rs1 > 31 || x.Rs2 > 31
		switch x.Op {
		case api.LW, api.SW:
			bad = bad || x.Imm < 0 || x.Imm%4 != 0
		case api.LD, api.SD:
			bad = bad || x.Imm < 0 || x.Imm%8 != 0
		case api.JAL, api.BEQ, api.BNE:
			bad = bad || x.Imm%2 != 0
		}
		if bad {
			t.Fatalf("Decode(%#04x) = %+v", p, x)
		}
		short := func(n uint8) bool { return n >= 8 && n <= 15 }
		if p&3 == 0 && x.Op != api.Illegal && x.Op != api.ADDI && (!short(x.Rs1) || !short(x.Rd|x.Rs2)) {
			t.Fatalf("Decode(%#04x) = %+v: registers of three bits", p, x)
		}
		if p&0xe003 == 0x8001 && x.Op != api.Illegal && (!short(x.Rd) || !short(x.Rs1)) {
			t.Fatalf("Decode(%#04x) = %+v: registers of three bits", p, x)
		}
	}
}
