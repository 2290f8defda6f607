package asm_test

import (
	"fmt"
	"strings"
	"testing"

	"almonry/api"
	"almonry/asm"
	"almonry/inst"
)

// listed is the document's list of operations, in order.
const listed = `LUI, AUIPC, JAL, JALR, BEQ, BNE, BLT, BGE, BLTU, BGEU, LB, LH, LW, LD, LBU, LHU, LWU, SB, SH, SW, SD, ADDI, SLTI, SLTIU, XORI, ORI, ANDI, SLLI, SRLI, SRAI, ADD, SUB, SLL, SLT, SLTU, XOR, SRL, SRA, OR, AND, ADDIW, SLLIW, SRLIW, SRAIW, ADDW, SUBW, SLLW, SRLW, SRAW, FENCE, FENCEI, ECALL, EBREAK, MUL, MULH, MULHSU, MULHU, DIV, DIVU, REM, REMU, MULW, DIVW, DIVUW, REMW, REMUW, LRW, SCW, AMOSWAPW, AMOADDW, AMOXORW, AMOANDW, AMOORW, AMOMINW, AMOMAXW, AMOMINUW, AMOMAXUW, LRD, SCD, AMOSWAPD, AMOADDD, AMOXORD, AMOANDD, AMOORD, AMOMIND, AMOMAXD, AMOMINUD, AMOMAXUD, CSRRW, CSRRS, CSRRC, CSRRWI, CSRRSI, CSRRCI, MRET, SRET, WFI, SFENCEVMA`

func names() []string { return strings.Split(strings.ToLower(listed), ", ") }

type random uint64

func (r *random) next() uint64 {
	*r = *r*6364136223846793005 + 1442695040888963407
	return uint64(*r >> 11)
}

func (r *random) below(n int) int { return int(r.next() % uint64(n)) }

// some is an instruction of the operation, by its form, with the fields' edges now and then; and its line.
func some(r *random, op uint8) (api.Inst, string) {
	x := api.Inst{Op: op, Size: 4}
	reg := func() uint8 { return uint8(r.below(32)) }
	from := func(least, most, step int64) int64 {
		switch r.below(4) {
		case 0:
			return least
		case 1:
			return most
		}
		return least + step*int64(r.next()%uint64((most-least)/step+1))
	}
	name := names()[op-1]
	operands := ""
	c := inst.Class(op)
	switch {
	case op == api.LUI || op == api.AUIPC:
		x.Rd, x.Imm = reg(), from(-524288, 524287, 1)
		operands = fmt.Sprintf("x%d,%d", x.Rd, x.Imm)
		x.Imm *= 4096
	case op == api.JAL:
		x.Rd, x.Imm = reg(), from(-1048576, 1048574, 2)
		operands = fmt.Sprintf("x%d,%d", x.Rd, x.Imm)
	case c == inst.Branches:
		x.Rs1, x.Rs2, x.Imm = reg(), reg(), from(-4096, 4094, 2)
		operands = fmt.Sprintf("x%d,x%d,%d", x.Rs1, x.Rs2, x.Imm)
	case c == inst.Loads:
		x.Rd, x.Rs1, x.Imm = reg(), reg(), from(-2048, 2047, 1)
		operands = fmt.Sprintf("x%d,%d(x%d)", x.Rd, x.Imm, x.Rs1)
	case c == inst.Stores:
		x.Rs2, x.Rs1, x.Imm = reg(), reg(), from(-2048, 2047, 1)
		operands = fmt.Sprintf("x%d,%d(x%d)", x.Rs2, x.Imm, x.Rs1)
	case op == api.LRW || op == api.LRD:
		x.Rd, x.Rs1 = reg(), reg()
		operands = fmt.Sprintf("x%d,x%d", x.Rd, x.Rs1)
	case op == api.SFENCEVMA:
		x.Rs1, x.Rs2 = reg(), reg()
		operands = fmt.Sprintf("x%d,x%d", x.Rs1, x.Rs2)
	case strings.HasPrefix(name, "csr") && strings.HasSuffix(name, "i"):
		x.Rd, x.Csr, x.Imm = reg(), uint16(from(0, 4095, 1)), from(0, 31, 1)
		operands = fmt.Sprintf("x%d,%d,%d", x.Rd, x.Csr, x.Imm)
	case c == inst.Csrs:
		x.Rd, x.Csr, x.Rs1 = reg(), uint16(from(0, 4095, 1)), reg()
		operands = fmt.Sprintf("x%d,%d,x%d", x.Rd, x.Csr, x.Rs1)
	case c == inst.Systems:
	default:
		x.Rd, x.Rs1 = reg(), reg()
		switch name {
		case "slli", "srli", "srai":
			x.Imm = from(0, 63, 1)
		case "slliw", "srliw", "sraiw":
			x.Imm = from(0, 31, 1)
		case "jalr", "addi", "slti", "sltiu", "xori", "ori", "andi", "addiw":
			x.Imm = from(-2048, 2047, 1)
		default:
			x.Rs2 = reg()
			return x, fmt.Sprintf("%s x%d,x%d,x%d", name, x.Rd, x.Rs1, x.Rs2)
		}
		operands = fmt.Sprintf("x%d,x%d,%d", x.Rd, x.Rs1, x.Imm)
	}
	if operands == "" {
		return x, name
	}
	return x, name + " " + operands
}

var examples = map[string]uint32{
	"addi x1,x0,5": 0x00500093, "sd x11,8(x10)": 0x00b53423, "bne x1,x2,-4": 0xfe209ee3, "lui x5,-1": 0xfffff2b7,
	"csrrw x0,773,x5": 0x30529073, "csrrwi x0,773,5": 0x3052d073, "lrw x5,x10": 0x100522af, "amoaddd x11,x10,x10": 0x00a535af,
	".word 0": 0, ".word 4294967295": 0xffffffff, "fence": 0x0000000f, "fencei": 0x0000100f, "ecall": 0x73, "ebreak": 0x100073,
	"mret": 0x30200073, "sret": 0x10200073, "wfi": 0x10500073, "sfencevma x0,x0": 0x12000073, "sfencevma x5,x6": 0x12628073,
	"jal x0,8": 0x0080006f, "jalr x0,x1,0": 0x00008067, "srai x1,x2,4": 0x40415093, "lw x1,-1(x2)": 0xfff12083, "auipc x3,1": 0x00001197,
	"sub x1,x2,x3": 0x403100b3, "mul x1,x2,x3": 0x023100b3, "scd x1,x2,x3": 0x183130af, "sraiw x1,x2,31": 0x41f1509b,
}

func TestP5_1Name(t *testing.T) {
	l := names()
	if len(l) != api.Ops-1 {
		t.Fatalf("the list has %d names", len(l))
	}
	for op := range 256 {
		want := ""
		if op > 0 && op < api.Ops {
			want = l[op-1]
		}
		if got := asm.Name(uint8(op)); got != want {
			t.Errorf("Name(%d) = %q, want %q", op, got, want)
		}
	}
}

func TestP5_1Encode(t *testing.T) {
	r := random(1)
	for op := uint8(1); op < api.Ops; op++ {
		for range 200 {
			x, _ := some(&r, op)
			p, e := asm.Encode(x)
			if e != api.OK || inst.Decode(p) != x {
				t.Fatalf("Encode(%+v) = %#08x, %v; that is %+v", x, p, e, inst.Decode(p))
			}
			free := uint32(0)
			if op == api.FENCE || op == api.FENCEI {
				free = 0xffff8f80
			} else if inst.Class(op) == inst.Atomics {
				free = 0x06000000
			}
			if p&free != 0 {
				t.Fatalf("Encode(%+v) = %#08x: a bit of no account is set", x, p)
			}
		}
	}
}

func TestP5_1EncodeOfWhatIsNone(t *testing.T) {
	r := random(2)
	try := func(x api.Inst) {
		t.Helper()
		p, e := asm.Encode(x)
		line, e2 := asm.Line(x)
		if inst.Check(x) == api.OK {
			if e != api.OK || inst.Decode(p) != x {
				t.Fatalf("Encode(%+v) = %#08x, %v", x, p, e)
			}
			return
		}
		if p != 0 || e != api.ErrForm || line != "" || e2 != api.ErrForm {
			t.Fatalf("Encode(%+v) = %#08x, %v; Line %q, %v; want ErrForm", x, p, e, line, e2)
		}
	}
	for op := uint8(1); op != 0; op++ {
		x := api.Inst{Op: op, Size: 4}
		try(x)
		for range 20 {
			if op < api.Ops {
				x, _ = some(&r, op)
			}
			y := x
			y.Size = uint8(r.below(4))
			try(y)
			for _, d := range []uint8{1, 32, 64, 224} {
				y = x
				y.Rd += d
				try(y)
				y = x
				y.Rs1 += d
				try(y)
				y = x
				y.Rs2 += d
				try(y)
			}
			for _, d := range []uint16{1, 32, 4096, 32768} {
				y = x
				y.Csr += d
				try(y)
			}
			for _, d := range []int64{1, -1, 32, 64, 1024, 2048, 4096, -4096, 8192, 1 << 20, 1 << 31, 1 << 32, -1 << 32, 1 << 62} {
				y = x
				y.Imm += d
				try(y)
			}
		}
	}
}

func TestP5_1EncodeOfIllegal(t *testing.T) {
	for _, p := range []uint32{0, 1, 0x4f, 0xffffffff, 0x80000000, 0x12345678} {
		x := api.Inst{Imm: int64(p), Size: 4}
		if inst.Decode(p) != x {
			t.Fatalf("%#x isn't illegal", p)
		}
		if got, e := asm.Encode(x); got != p || e != api.OK {
			t.Errorf("Encode(%+v) = %#08x, %v", x, got, e)
		}
	}
	for _, x := range []api.Inst{
		{Imm: 0x73, Size: 4}, {Imm: 0x00500093, Size: 4}, {Imm: -1, Size: 4}, {Imm: 1 << 32, Size: 4}, {Imm: 1<<32 + 0x4f, Size: 4},
		{Imm: 0, Size: 2}, {Imm: 0}, {Imm: 0, Size: 4, Rd: 1}, {Imm: 0, Size: 4, Rs1: 1}, {Imm: 0, Size: 4, Rs2: 1}, {Imm: 0, Size: 4, Csr: 1},
	} {
		if p, e := asm.Encode(x); p != 0 || e != api.ErrForm {
			t.Errorf("Encode(%+v) = %#08x, %v; want ErrForm", x, p, e)
		}
		if s, e := asm.Line(x); s != "" || e != api.ErrForm {
			t.Errorf("Line(%+v) = %q, %v; want ErrForm", x, s, e)
		}
	}
}

func TestP5_2Examples(t *testing.T) {
	for line, p := range examples {
		x, e := asm.Parse(line)
		if e != api.OK || x != inst.Decode(p) {
			t.Errorf("Parse(%q) = %+v, %v; want %+v", line, x, e, inst.Decode(p))
		}
		if got, e := asm.Encode(inst.Decode(p)); got != p || e != api.OK {
			t.Errorf("Encode of %q = %#08x, %v; want %#08x", line, got, e, p)
		}
		if got, e := asm.Line(inst.Decode(p)); got != line || e != api.OK {
			t.Errorf("Line of %#08x = %q, %v; want %q", p, got, e, line)
		}
	}
}

func TestP5_2LineAndParse(t *testing.T) {
	r := random(3)
	for op := uint8(1); op < api.Ops; op++ {
		for range 100 {
			x, line := some(&r, op)
			if got, e := asm.Line(x); got != line || e != api.OK {
				t.Fatalf("Line(%+v) = %q, %v; want %q", x, got, e, line)
			}
			if got, e := asm.Parse(line); got != x || e != api.OK {
				t.Fatalf("Parse(%q) = %+v, %v; want %+v", line, got, e, x)
			}
		}
	}
}

func TestP5_2NoLine(t *testing.T) {
	for _, s := range []string{
		"", " ", "addi", "addi ", "addi x1", "addi x1,x0", "addi x1,x0,", "addi x1,x0,5,", "addi x1,x0,5,6", "addi x1,x0,5 ", " addi x1,x0,5",
		"addi x1,x0,2048", "addi x1,x0,-2049", "addi x1,x0,+5", "ADDI x1,x0,5", "addi x1, x0,5", "addi  x1,x0,5", "addi x1,x0,05", "addi x1,x0,-0", "addi x1,x0,0x5",
		"addi x32,x0,5", "addi x01,x0,5", "addi x+1,x0,5", "addi x-1,x0,5", "addi X1,x0,5", "addi 1,x0,5", "addi x,x0,5", "addi x257,x0,5", "addi x1,x0,x5", "addi x1,x0,5\n", "addi\tx1,x0,5",
		"addi x1,x0,99999999999999999999", "addi x1,x0,4294967301", "addi x1,x0,1_0", "addi x1,x0,1e1",
		"subi x1,x0,5", "nop", "li x1,5", "addi1 x1,x0,5", "add x1,x0", "add x1,x0,5",
		".word", ".word ", ".word 115", ".word -1", ".word 4294967296", ".word 00", ".word +0", ".word x0", ".word 0,0", ".word 5243027", ".words 0", "word 0",
		"lw x1,4", "lw x1,4(x2", "lw x1,4 x2)", "lw x1,(x2)", "lw x1,4(x2))", "lw x1,4(2)", "lw x1,4(x2)5", "lw x1,4,(x2)", "lw x1,x2,4", "lw x1,04(x2)", "lw x1,2048(x2)",
		"sd x1,4()", "sd 4(x2),x1", "bne x1,x2,3", "bne x1,x2,4096", "bne x1,x2", "jal x1", "jal 8", "jal x1,1", "jal x0,1048576", "jal x0,-1048578",
		"lui x1,524288", "lui x1,-524289", "lui x1,4503599627370496", "auipc x1,4503599627370497", "lui x1",
		"csrrw x0,x5,773", "csrrw x0,4096,x5", "csrrw x0,-1,x5", "csrrw x0,66309,x5", "csrrwi x0,773,32", "csrrwi x0,773,-1", "csrrwi x0,773,x5", "csrrs x0,mstatus,x5",
		"lrw x1,x2,x0", "lrw x1", "lrw x1,(x2)", "scw x1,x2", "amoadd x1,x2,x3", "amoaddw x1,x2", "lr.w x1,x2", "fence.i", "fence x0", "fence iorw,iorw", "ecall x0", "ecall ", "mret,", "sfencevma", "sfencevma x0",
		"slli x1,x2,64", "slli x1,x2,-1", "slli x1,x2,1024", "srli x1,x2,1028", "slliw x1,x2,32", "jalr x1", "jalr x1,4(x2)", "illegal", "\x00", "add x1,x0,x\xff",
	} {
		if x, e := asm.Parse(s); x != (api.Inst{}) || e != api.ErrForm {
			t.Errorf("Parse(%q) = %+v, %v; want ErrForm", s, x, e)
		}
	}
}

func TestP5_2OneByteChanged(t *testing.T) {
	r := random(4)
	for op := uint8(1); op < api.Ops; op++ {
		_, line := some(&r, op)
		for i := range line {
			for _, c := range " ,x-+0159()adiw.\n" {
				s := line[:i] + string(c) + line[i+1:]
				x, e := asm.Parse(s)
				if e == api.ErrForm && x == (api.Inst{}) {
					continue
				}
				if back, e2 := asm.Line(x); e != api.OK || e2 != api.OK || back != s {
					t.Fatalf("Parse(%q) = %+v, %v, whose line is %q", s, x, e, back)
				}
			}
		}
	}
}

func TestP5_3Assemble(t *testing.T) {
	for _, c := range []struct {
		s, bytes string
		line     int
		e        api.Errno
	}{
		{"", "", 0, api.OK},
		{"\n", "", 1, api.ErrForm},
		{"addi x1,x0,5", "\x93\x00\x50\x00", 1, api.OK},
		{"addi x1,x0,5\n", "\x93\x00\x50\x00", 1, api.OK},
		{"addi x1,x0,5\n\n", "", 2, api.ErrForm},
		{"\naddi x1,x0,5\n", "", 1, api.ErrForm},
		{"addi x1,x0,5\nsd x11,8(x10)\n.word 0", "\x93\x00\x50\x00\x23\x34\xb5\x00\x00\x00\x00\x00", 3, api.OK},
		{"addi x1,x0,5\nsd x11,8(x10)\n.word 0\n", "\x93\x00\x50\x00\x23\x34\xb5\x00\x00\x00\x00\x00", 3, api.OK},
		{"addi x1,x0,5\nsd x11,8(x10\n.word 115", "", 2, api.ErrForm},
		{"ecall\necall\necall\n.word 115\n", "", 4, api.ErrForm},
		{"ecall\r\n", "", 1, api.ErrForm},
		{"ecall\n\necall\n", "", 2, api.ErrForm},
	} {
		bytes, line, e := asm.Assemble(c.s)
		if bytes != c.bytes || line != c.line || e != c.e {
			t.Errorf("Assemble(%q) = %q, %d, %v; want %q, %d, %v", c.s, bytes, line, e, c.bytes, c.line, c.e)
		}
	}
}

func TestP5_3List(t *testing.T) {
	for _, c := range []struct {
		bytes, s string
		e        api.Errno
	}{
		{"", "", api.OK},
		{"\x93\x00\x50\x00", "addi x1,x0,5\n", api.OK},
		{"\x93\x00\x50\x00\x23\x34\xb5\x00\x00\x00\x00\x00\xff\xff\xff\xff", "addi x1,x0,5\nsd x11,8(x10)\n.word 0\n.word 4294967295\n", api.OK},
		{"\x93", "", api.ErrTorn}, {"\x93\x00\x50", "", api.ErrTorn}, {"\x93\x00\x50\x00\x73", "", api.ErrTorn}, {"\x93\x00\x50\x00\x73\x00", "", api.ErrTorn},
		{"\x0f\x00\xf0\x0f\xaf\x25\xa5\x06", "fence\namoaddw x11,x10,x10\n", api.OK},
	} {
		if s, e := asm.List(c.bytes); s != c.s || e != c.e {
			t.Errorf("List(%q) = %q, %v; want %q, %v", c.bytes, s, e, c.s, c.e)
		}
	}
}

func TestP5_4And5Back(t *testing.T) {
	r := random(5)
	var program strings.Builder
	var lines []string
	for range 10 {
		for op := uint8(1); op < api.Ops; op++ {
			x, line := some(&r, op)
			p, _ := asm.Encode(x)
			if inst.Decode(p) != x {
				t.Fatalf("Decode of Encode of %+v", x)
			}
			lines = append(lines, line)
		}
		word := fmt.Sprintf(".word %d", uint32(r.next())&^0x7f|0x7f)
		lines = append(lines, word)
	}
	program.WriteString(strings.Join(lines, "\n"))
	bytes, n, e := asm.Assemble(program.String())
	if n != len(lines) || e != api.OK || len(bytes) != 4*len(lines) {
		t.Fatalf("Assemble: %d lines of %d, %d bytes, %v", n, len(lines), len(bytes), e)
	}
	back, e := asm.List(bytes)
	if back != program.String()+"\n" || e != api.OK {
		t.Errorf("List of Assemble isn't the program: %v", e)
	}
	again, n, e := asm.Assemble(back)
	if again != bytes || n != len(lines) || e != api.OK {
		t.Errorf("Assemble of List gives other bytes: %d, %v", n, e)
	}
}
