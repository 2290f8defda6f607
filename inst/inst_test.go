package inst_test

import (
	"testing"

	"almonry/api"
	"almonry/inst"
)

// A row tells an operation by its fixed bits; form is the chapter's letter.
type row struct {
	op          uint8
	mask, match uint32
	form        string
}

const (
	all   = 0xffffffff
	f3op  = 0x0000707f
	f7op  = 0xfe00707f
	f6op  = 0xfc00707f
	f5op  = 0xf800707f
	lrop  = 0xf9f0707f
	sfops = 0xfe007fff
)

func rows() []row {
	l := []row{
		{api.LUI, 0x7f, 0x37, "Up"}, {api.AUIPC, 0x7f, 0x17, "Up"}, {api.JAL, 0x7f, 0x6f, "J"}, {api.JALR, f3op, 0x67, "I"},
		{api.BEQ, f3op, 0x0063, "B"}, {api.BNE, f3op, 0x1063, "B"}, {api.BLT, f3op, 0x4063, "B"}, {api.BGE, f3op, 0x5063, "B"}, {api.BLTU, f3op, 0x6063, "B"}, {api.BGEU, f3op, 0x7063, "B"},
		{api.LB, f3op, 0x0003, "I"}, {api.LH, f3op, 0x1003, "I"}, {api.LW, f3op, 0x2003, "I"}, {api.LD, f3op, 0x3003, "I"}, {api.LBU, f3op, 0x4003, "I"}, {api.LHU, f3op, 0x5003, "I"}, {api.LWU, f3op, 0x6003, "I"},
		{api.SB, f3op, 0x0023, "St"}, {api.SH, f3op, 0x1023, "St"}, {api.SW, f3op, 0x2023, "St"}, {api.SD, f3op, 0x3023, "St"},
		{api.ADDI, f3op, 0x0013, "I"}, {api.SLTI, f3op, 0x2013, "I"}, {api.SLTIU, f3op, 0x3013, "I"}, {api.XORI, f3op, 0x4013, "I"}, {api.ORI, f3op, 0x6013, "I"}, {api.ANDI, f3op, 0x7013, "I"},
		{api.SLLI, f6op, 0x1013, "Sh"}, {api.SRLI, f6op, 0x5013, "Sh"}, {api.SRAI, f6op, 0x40005013, "Sh"},
		{api.SUB, f7op, 0x40000033, "R"}, {api.SRA, f7op, 0x40005033, "R"},
		{api.ADDIW, f3op, 0x001b, "I"}, {api.SLLIW, f7op, 0x101b, "Sw"}, {api.SRLIW, f7op, 0x501b, "Sw"}, {api.SRAIW, f7op, 0x4000501b, "Sw"},
		{api.ADDW, f7op, 0x003b, "R"}, {api.SLLW, f7op, 0x103b, "R"}, {api.SRLW, f7op, 0x503b, "R"}, {api.SUBW, f7op, 0x4000003b, "R"}, {api.SRAW, f7op, 0x4000503b, "R"},
		{api.MULW, f7op, 0x0200003b, "R"}, {api.DIVW, f7op, 0x0200403b, "R"}, {api.DIVUW, f7op, 0x0200503b, "R"}, {api.REMW, f7op, 0x0200603b, "R"}, {api.REMUW, f7op, 0x0200703b, "R"},
		{api.FENCE, f3op, 0x000f, "F"}, {api.FENCEI, f3op, 0x100f, "F"},
		{api.CSRRW, f3op, 0x1073, "C"}, {api.CSRRS, f3op, 0x2073, "C"}, {api.CSRRC, f3op, 0x3073, "C"}, {api.CSRRWI, f3op, 0x5073, "Cn"}, {api.CSRRSI, f3op, 0x6073, "Cn"}, {api.CSRRCI, f3op, 0x7073, "Cn"},
		{api.SFENCEVMA, sfops, 0x12000073, "V"}, {api.ECALL, all, 0x73, "W"}, {api.EBREAK, all, 0x100073, "W"}, {api.SRET, all, 0x10200073, "W"}, {api.WFI, all, 0x10500073, "W"}, {api.MRET, all, 0x30200073, "W"},
	}
	for i, op := range []uint8{api.ADD, api.SLL, api.SLT, api.SLTU, api.XOR, api.SRL, api.OR, api.AND} {
		l = append(l, row{op, f7op, 0x33 | uint32(i)<<12, "R"})
	}
	for i, op := range []uint8{api.MUL, api.MULH, api.MULHSU, api.MULHU, api.DIV, api.DIVU, api.REM, api.REMU} {
		l = append(l, row{op, f7op, 0x02000033 | uint32(i)<<12, "R"})
	}
	four := []uint8{api.SCW, api.AMOSWAPW, api.AMOADDW, api.AMOXORW, api.AMOANDW, api.AMOORW, api.AMOMINW, api.AMOMAXW, api.AMOMINUW, api.AMOMAXUW}
	eight := []uint8{api.SCD, api.AMOSWAPD, api.AMOADDD, api.AMOXORD, api.AMOANDD, api.AMOORD, api.AMOMIND, api.AMOMAXD, api.AMOMINUD, api.AMOMAXUD}
	for i, n := range []uint32{3, 1, 0, 4, 12, 8, 16, 20, 24, 28} {
		l = append(l, row{four[i], f5op, 0x202f | n<<27, "A"}, row{eight[i], f5op, 0x302f | n<<27, "A"})
	}
	return append(l, row{api.LRW, lrop, 0x1000202f, "Lr"}, row{api.LRD, lrop, 0x1000302f, "Lr"})
}

var (
	table  = rows()
	letter = forms()
)

func bit(p uint32, n int) int64 { return int64(p >> n & 1) }

// scatter puts a number together bit by bit: the places of its bits in the parcel, from its highest bit on; -1 is a 0.
func scatter(p uint32, signed bool, places ...int) int64 {
	var n int64
	for i, place := range places {
		b := int64(0)
		if place >= 0 {
			b = bit(p, place)
		}
		if i == 0 && signed {
			b = -b
		}
		n = 2*n + b
	}
	return n
}

func model(p uint32) api.Inst {
	for _, r := range table {
		if p&r.mask == r.match {
			return fields(r, p)
		}
	}
	return api.Inst{Imm: int64(p), Size: 4}
}

func fields(r row, p uint32) api.Inst {
	rd, rs1, rs2 := uint8(p/128%32), uint8(p/32768%32), uint8(p/1048576%32)
	x := api.Inst{Op: r.op, Size: 4}
	switch r.form {
	case "R", "A":
		x.Rd, x.Rs1, x.Rs2 = rd, rs1, rs2
	case "Lr":
		x.Rd, x.Rs1 = rd, rs1
	case "I":
		x.Rd, x.Rs1, x.Imm = rd, rs1, int64(int32(p)>>20)
	case "Sh":
		x.Rd, x.Rs1, x.Imm = rd, rs1, int64(p>>20%64)
	case "Sw":
		x.Rd, x.Rs1, x.Imm = rd, rs1, int64(p>>20%32)
	case "St":
		x.Rs1, x.Rs2, x.Imm = rs1, rs2, scatter(p, true, 31, 30, 29, 28, 27, 26, 25, 11, 10, 9, 8, 7)
	case "B":
		x.Rs1, x.Rs2, x.Imm = rs1, rs2, scatter(p, true, 31, 7, 30, 29, 28, 27, 26, 25, 11, 10, 9, 8, -1)
	case "Up":
		x.Rd, x.Imm = rd, int64(int32(p&0xfffff000))
	case "J":
		x.Rd, x.Imm = rd, scatter(p, true, 31, 19, 18, 17, 16, 15, 14, 13, 12, 20, 30, 29, 28, 27, 26, 25, 24, 23, 22, 21, -1)
	case "C":
		x.Rd, x.Rs1, x.Csr = rd, rs1, uint16(p>>20)
	case "Cn":
		x.Rd, x.Imm, x.Csr = rd, int64(rs1), uint16(p>>20)
	case "V":
		x.Rs1, x.Rs2 = rs1, rs2
	}
	return x
}

// parcels are many: of each operation with all kinds of other bits, with one fixed bit turned over, and any.
func parcels() []uint32 {
	var l []uint32
	n := uint32(2463534242)
	next := func() uint32 {
		n ^= n << 13
		n ^= n >> 17
		n ^= n << 5
		return n
	}
	for _, r := range table {
		for _, free := range []uint32{0, all, 0x80000000, 0x7ff00000, 0x00100000, 0x00000f80, 0x000f8000, 0x01f00000, 0x06000000} {
			l = append(l, r.match|free&^r.mask)
		}
		for range 60 {
			l = append(l, r.match|next()&^r.mask)
		}
		for b := range 32 {
			l = append(l, r.match^1<<b, (r.match|next()&^r.mask)^1<<b)
		}
	}
	for op := range uint32(128) { // each op with each f3 and f7
		for f3 := range uint32(8) {
			for f7 := range uint32(128) {
				l = append(l, op|f3<<12|f7<<25|next()&0x01ff8f80, op|f3<<12|f7<<25)
			}
		}
	}
	for range 20000 {
		l = append(l, next())
	}
	return append(l, 0, all, 3, 0x10, 0x10028073, 0x12000073)
}

func TestP3_1Decode(t *testing.T) {
	for _, p := range parcels() {
		if got, want := inst.Decode(p), model(p); got != want {
			t.Fatalf("Decode(%#08x) = %+v, want %+v", p, got, want)
		}
	}
}

func TestP3_1Examples(t *testing.T) {
	for p, want := range map[uint32]api.Inst{
		0x00500093: {Op: api.ADDI, Rd: 1, Imm: 5, Size: 4},
		0xfff08113: {Op: api.ADDI, Rd: 2, Rs1: 1, Imm: -1, Size: 4},
		0xfe209ee3: {Op: api.BNE, Rs1: 1, Rs2: 2, Imm: -4, Size: 4},
		0x0080006f: {Op: api.JAL, Imm: 8, Size: 4},
		0x30529073: {Op: api.CSRRW, Rs1: 5, Csr: 0x305, Size: 4},
		0x3052d073: {Op: api.CSRRWI, Imm: 5, Csr: 0x305, Size: 4},
		0x100522af: {Op: api.LRW, Rd: 5, Rs1: 10, Size: 4},
		0x00a535af: {Op: api.AMOADDD, Rd: 11, Rs1: 10, Rs2: 10, Size: 4},
		0x40415093: {Op: api.SRAI, Rd: 1, Rs1: 2, Imm: 4, Size: 4},
		0x00000000: {Op: api.Illegal, Imm: 0, Size: 4},
		0xffffffff: {Op: api.Illegal, Imm: 0xffffffff, Size: 4},
		0x00b53423: {Op: api.SD, Rs1: 10, Rs2: 11, Imm: 8, Size: 4},
		0xfffff2b7: {Op: api.LUI, Rd: 5, Imm: -4096, Size: 4},
	} {
		if got := inst.Decode(p); got != want {
			t.Errorf("Decode(%#08x) = %+v, want %+v", p, got, want)
		}
	}
}

type facts struct {
	class  uint8
	width  int
	signed bool
}

func known() map[uint8]facts {
	m := map[uint8]facts{}
	put := func(f facts, ops ...uint8) {
		for _, op := range ops {
			m[op] = f
		}
	}
	put(facts{inst.Arith, 0, false}, api.LUI, api.AUIPC, api.ADDI, api.SLTI, api.SLTIU, api.XORI, api.ORI, api.ANDI, api.SLLI, api.SRLI, api.SRAI,
		api.ADD, api.SUB, api.SLL, api.SLT, api.SLTU, api.XOR, api.SRL, api.SRA, api.OR, api.AND, api.ADDIW, api.SLLIW, api.SRLIW, api.SRAIW,
		api.ADDW, api.SUBW, api.SLLW, api.SRLW, api.SRAW, api.MUL, api.MULH, api.MULHSU, api.MULHU, api.DIV, api.DIVU, api.REM, api.REMU,
		api.MULW, api.DIVW, api.DIVUW, api.REMW, api.REMUW)
	put(facts{inst.Jumps, 0, false}, api.JAL, api.JALR)
	put(facts{inst.Branches, 0, false}, api.BEQ, api.BNE, api.BLT, api.BGE, api.BLTU, api.BGEU)
	put(facts{inst.Loads, 1, true}, api.LB)
	put(facts{inst.Loads, 2, true}, api.LH)
	put(facts{inst.Loads, 4, true}, api.LW)
	put(facts{inst.Loads, 8, true}, api.LD)
	put(facts{inst.Loads, 1, false}, api.LBU)
	put(facts{inst.Loads, 2, false}, api.LHU)
	put(facts{inst.Loads, 4, false}, api.LWU)
	put(facts{inst.Stores, 1, false}, api.SB)
	put(facts{inst.Stores, 2, false}, api.SH)
	put(facts{inst.Stores, 4, false}, api.SW)
	put(facts{inst.Stores, 8, false}, api.SD)
	put(facts{inst.Atomics, 4, true}, api.LRW, api.SCW, api.AMOSWAPW, api.AMOADDW, api.AMOXORW, api.AMOANDW, api.AMOORW, api.AMOMINW, api.AMOMAXW, api.AMOMINUW, api.AMOMAXUW)
	put(facts{inst.Atomics, 8, false}, api.LRD, api.SCD, api.AMOSWAPD, api.AMOADDD, api.AMOXORD, api.AMOANDD, api.AMOORD, api.AMOMIND, api.AMOMAXD, api.AMOMINUD, api.AMOMAXUD)
	put(facts{inst.Csrs, 0, false}, api.CSRRW, api.CSRRS, api.CSRRC, api.CSRRWI, api.CSRRSI, api.CSRRCI)
	put(facts{inst.Systems, 0, false}, api.FENCE, api.FENCEI, api.ECALL, api.EBREAK, api.MRET, api.SRET, api.WFI, api.SFENCEVMA)
	return m
}

func TestP3_2Facts(t *testing.T) {
	m := known()
	if len(m) != api.Ops-1 {
		t.Fatalf("the test knows %d operations", len(m))
	}
	for op := range 256 {
		want, ok := m[uint8(op)]
		if !ok {
			want = facts{inst.None, 0, false}
		}
		got := facts{inst.Class(uint8(op)), inst.Width(uint8(op)), inst.Signed(uint8(op))}
		if got != want {
			t.Errorf("operation %d: %+v, want %+v", op, got, want)
		}
	}
}

func TestP3_2ClassesAreNumbered(t *testing.T) {
	got := [9]int{inst.Arith, inst.Loads, inst.Stores, inst.Branches, inst.Jumps, inst.Atomics, inst.Csrs, inst.Systems, inst.None}
	if got != [9]int{0, 1, 2, 3, 4, 5, 6, 7, 8} {
		t.Errorf("the classes are %v", got)
	}
}

// forms tells of each operation which form it has.
func forms() map[uint8]string {
	m := map[uint8]string{}
	for _, r := range rows() {
		m[r.op] = r.form
	}
	return m
}

// may is what Check should tell, by the reach of each form.
func may(x api.Inst) bool {
	form := letter[x.Op]
	if form == "" || x.Size != 4 {
		return false
	}
	rd, rs1, rs2, csr := uint8(0), uint8(0), uint8(0), uint16(0)
	least, most, step := int64(0), int64(0), int64(1)
	switch form {
	case "R", "A":
		rd, rs1, rs2 = 31, 31, 31
	case "Lr":
		rd, rs1 = 31, 31
	case "I":
		rd, rs1, least, most = 31, 31, -2048, 2047
	case "Sh":
		rd, rs1, most = 31, 31, 63
	case "Sw":
		rd, rs1, most = 31, 31, 31
	case "St":
		rs1, rs2, least, most = 31, 31, -2048, 2047
	case "B":
		rs1, rs2, least, most, step = 31, 31, -4096, 4094, 2
	case "Up":
		rd, least, most, step = 31, -2147483648, 2147479552, 4096
	case "J":
		rd, least, most, step = 31, -1048576, 1048574, 2
	case "C":
		rd, rs1, csr = 31, 31, 4095
	case "Cn":
		rd, csr, most = 31, 4095, 31
	case "V":
		rs1, rs2 = 31, 31
	}
	return x.Rd <= rd && x.Rs1 <= rs1 && x.Rs2 <= rs2 && x.Csr <= csr && x.Imm >= least && x.Imm <= most && x.Imm%step == 0
}

func TestP3_3Check(t *testing.T) {
	check := func(x api.Inst) {
		t.Helper()
		want := api.ErrForm
		if may(x) {
			want = api.OK
		}
		if got := inst.Check(x); got != want {
			t.Fatalf("Check(%+v) = %v, want %v", x, got, want)
		}
	}
	numbers := []int64{
		0, 1, 2, -1, -2, 5, 31, 32, 63, 64, 2047, 2048, -2048, -2049, 4094, 4095, 4096, -4096, -4097, -4098, 8192, 1048574, 1048575, 1048576, -1048576, -1048577, -1048578,
		2147479552, 2147483647, 2147483648, -2147483648, -2147483649, -2147487744, 1 << 40, -1 << 63, 1<<63 - 1,
	}
	for op := range 256 {
		for _, n := range numbers {
			for _, size := range []uint8{4, 0, 2, 3, 5, 8, 255} {
				check(api.Inst{Op: uint8(op), Imm: n, Size: size})
			}
			check(api.Inst{Op: uint8(op), Rd: 31, Rs1: 31, Imm: n, Size: 4})
			check(api.Inst{Op: uint8(op), Rs1: 31, Rs2: 31, Imm: n, Size: 4})
			check(api.Inst{Op: uint8(op), Rd: 31, Csr: 4095, Imm: n, Size: 4})
		}
		for _, r := range []uint8{1, 31, 32, 33, 255} {
			check(api.Inst{Op: uint8(op), Rd: r, Size: 4})
			check(api.Inst{Op: uint8(op), Rs1: r, Size: 4})
			check(api.Inst{Op: uint8(op), Rs2: r, Size: 4})
		}
		for _, c := range []uint16{1, 4095, 4096, 65535} {
			check(api.Inst{Op: uint8(op), Csr: c, Size: 4})
		}
	}
}

func TestP3_3CheckOfWhatIsDecoded(t *testing.T) {
	for _, p := range parcels() {
		x := inst.Decode(p)
		want := api.OK
		if x.Op == api.Illegal {
			want = api.ErrForm
		}
		if got := inst.Check(x); got != want {
			t.Fatalf("Check(Decode(%#08x)) = %v", p, got)
		}
	}
}

func TestP3_4OneInstruction(t *testing.T) {
	for _, p := range parcels() {
		x := inst.Decode(p)
		if x.Size != 4 || x.Rd > 31 || x.Rs1 > 31 || x.Rs2 > 31 || x.Op >= api.Ops {
			t.Fatalf("Decode(%#08x) = %+v", p, x)
		}
		if x.Op == api.Illegal && x != (api.Inst{Imm: int64(p), Size: 4}) {
			t.Fatalf("Decode(%#08x) = %+v: an illegal one tells its parcel alone", p, x)
		}
		c := inst.Class(x.Op)
		if (c == inst.Branches || c == inst.Jumps && x.Op != api.JALR) && x.Imm%2 != 0 {
			t.Fatalf("Decode(%#08x) = %+v: odd", p, x)
		}
	}
}

func TestP3_5BitsOfNoAccount(t *testing.T) {
	for _, p := range parcels() {
		x := inst.Decode(p)
		var free uint32
		switch {
		case x.Op == api.FENCE || x.Op == api.FENCEI:
			free = 0xffff8f80
		case inst.Class(x.Op) == inst.Atomics:
			free = 0x06000000
		}
		for b := range 32 {
			same := inst.Decode(p^1<<b) == x
			if same != (free>>b&1 == 1) {
				t.Fatalf("%#08x and %#08x: the same is %v", p, p^1<<b, same)
			}
		}
	}
}
