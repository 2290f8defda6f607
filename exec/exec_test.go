package exec_test

import (
	"slices"
	"testing"

	"almonry/alu"
	"almonry/api"
	"almonry/exec"
	"almonry/inst"
)

const minusOne = ^uint64(0)

func in(op, rd, rs1, rs2 uint8, imm int64) api.Inst {
	return api.Inst{Op: op, Rd: rd, Rs1: rs1, Rs2: rs2, Imm: imm, Size: 4}
}

type random uint64

func (r *random) next() uint64 {
	*r ^= *r << 13
	*r ^= *r >> 7
	*r ^= *r << 17
	return uint64(*r)
}

func TestP23_1GetAndSet(t *testing.T) {
	for n := range 256 {
		var r exec.Regs
		for i := range r {
			r[i] = uint64(100 + i)
		}
		before := r
		want := uint64(100 + n%32)
		if n%32 == 0 {
			want = 0
		}
		if got := r.Get(uint8(n)); got != want || r != before {
			t.Errorf("Get(%d) = %d, want %d", n, got, want)
		}
		r.Set(uint8(n), 7)
		if n%32 != 0 {
			before[n%32] = 7
		}
		if r != before {
			t.Errorf("behind Set(%d, 7): %v", n, r)
		}
	}
	var none *exec.Regs
	none.Set(5, 1)
	for n := range 256 {
		if none.Get(uint8(n)) != 0 {
			t.Errorf("Get(%d) of nil", n)
		}
	}
}

func TestP23_2Examples(t *testing.T) {
	for _, c := range []struct {
		x    api.Inst
		reg  uint8
		v    uint64
		next uint64
	}{
		{in(api.ADDI, 3, 1, 0, -6), 3, minusOne, 0x1004},
		{in(api.ADD, 3, 1, 2, 0), 3, 4, 0x1004},
		{api.Inst{Op: api.LUI, Rd: 3, Imm: 0x12345000, Size: 2}, 3, 0x12345000, 0x1002},
		{in(api.LUI, 3, 0, 0, -4096), 3, minusOne - 4095, 0x1004},
		{in(api.AUIPC, 3, 0, 0, -4096), 3, 0, 0x1004},
		{in(api.JAL, 1, 0, 0, 8), 1, 0x1004, 0x1008},
		{in(api.JALR, 1, 1, 0, 2), 1, 0x1004, 6},
		{in(api.JALR, 3, 1, 0, -6), 3, 0x1004, minusOne - 1},
		{in(api.BLT, 0, 2, 1, -4), 1, 5, 0xffc},
		{in(api.BLTU, 0, 2, 1, -4), 1, 5, 0x1004},
		{api.Inst{Op: api.BEQ, Rs1: 1, Rs2: 2, Imm: 8, Size: 2}, 1, 5, 0x1002},
		{in(api.BEQ, 3, 1, 1, 8), 3, 0, 0x1008}, // branches write nothing
		{in(api.ADDI, 0, 1, 0, 1), 0, 0, 0x1004},
		{in(api.SLTIU, 3, 1, 0, -1), 3, 1, 0x1004},
		{in(api.SRAI, 3, 2, 0, 63), 3, minusOne, 0x1004},
		{api.Inst{Op: api.JAL, Rd: 3, Imm: -0x1002, Size: 2}, 3, 0x1002, minusOne - 1},
	} {
		r := exec.Regs{1: 5, 2: minusOne}
		want := r
		want[c.reg] = c.v
		next, ok := exec.Do(&r, 0x1000, c.x)
		if next != c.next || !ok || r != want {
			t.Errorf("Do of %+v: %#x, %v, %v; want %#x, x%d %#x", c.x, next, ok, r, c.next, c.reg, c.v)
		}
	}
}

// do is the chapter's table.
func do(r exec.Regs, pc uint64, x api.Inst) (exec.Regs, uint64, bool) {
	r[0] = 0
	a, b, n, behind := r[x.Rs1%32], r[x.Rs2%32], uint64(x.Imm), pc+uint64(x.Size)
	class := inst.Class(x.Op)
	if class != inst.Arith && class != inst.Branches && class != inst.Jumps {
		return r, pc, false
	}
	rd, next := uint64(0), behind
	switch {
	case class == inst.Branches:
		if taken, _ := alu.Branch(x.Op, a, b); taken {
			next = pc + n
		}
		return r, next, true
	case x.Op == api.LUI:
		rd = n
	case x.Op == api.AUIPC:
		rd = pc + n
	case x.Op == api.JAL:
		rd, next = behind, pc+n
	case x.Op == api.JALR:
		rd, next = behind, (a+n)/2*2
	default:
		if reg, _ := alu.Reg(x.Op); reg == x.Op {
			rd, _ = alu.Do(reg, a, b)
		} else {
			rd, _ = alu.Do(reg, a, n)
		}
	}
	if x.Rd%32 != 0 {
		r[x.Rd%32] = rd
	}
	return r, next, true
}

func someRegs(rnd *random) exec.Regs {
	var r exec.Regs
	for i := range r {
		r[i] = rnd.next() >> (rnd.next() % 64)
		if rnd.next()%4 == 0 {
			r[i] = -r[i]
		}
	}
	r[0] = 0
	return r
}

func TestP23_2And5Model(t *testing.T) {
	rnd := random(5)
	for op := range 256 {
		for range 300 {
			r := someRegs(&rnd)
			before := r
			x := api.Inst{Op: uint8(op), Rd: uint8(rnd.next()), Rs1: uint8(rnd.next()), Rs2: uint8(rnd.next()), Imm: int64(rnd.next()) >> (rnd.next() % 64), Size: uint8(2 + rnd.next()%2*2)}
			if rnd.next()%3 == 0 {
				x.Rd, x.Rs1, x.Rs2 = x.Rd%32, x.Rs1%4, x.Rs2%4
			}
			if rnd.next()%8 == 0 {
				x.Rs2, x.Size = x.Rs1, uint8(rnd.next())
			}
			pc := rnd.next()
			want, next, ok := do(r, pc, x)
			got, is := exec.Do(&r, pc, x)
			if got != next || is != ok || r != want {
				t.Fatalf("Do of %+v at %#x: %#x, %v; want %#x, %v\n%x\n%x", x, pc, got, is, next, ok, r, want)
			}
			changed := 0
			for i := range r {
				if r[i] != before[i] {
					changed++
				}
			}
			if changed > 1 || r[0] != 0 {
				t.Fatalf("Do of %+v changed %d registers", x, changed)
			}
			none, is := exec.Do(nil, pc, x)
			if _, next, _ := do(exec.Regs{}, pc, x); none != next || is != ok {
				t.Fatalf("Do of nil, %+v at %#x: %#x, %v; want %#x", x, pc, none, is, next)
			}
		}
	}
}

func TestP23_2TheFirstRegister(t *testing.T) {
	r := exec.Regs{0: 99, 1: 5} // 0 is read of it, whatever it holds
	if next, ok := exec.Do(&r, 0, in(api.ADD, 3, 0, 1, 0)); next != 4 || !ok || r[3] != 5 {
		t.Errorf("%#x, %v, %v", next, ok, r)
	}
	if _, ok := exec.Do(&r, 0, in(api.ADDI, 32, 1, 0, 1)); !ok || r[0] != 99 {
		t.Errorf("x32 counts as x0: %v", r)
	}
	if a, ok := exec.Addr(&r, in(api.LW, 3, 0, 0, 4)); a != 4 || !ok {
		t.Errorf("Addr by x0: %d", a)
	}
}

func TestP23_5Link(t *testing.T) {
	for _, size := range []uint8{2, 4} {
		var r exec.Regs
		next, _ := exec.Do(&r, 0x1000, api.Inst{Op: api.JAL, Rd: 1, Imm: 64, Size: size})
		back, _ := exec.Do(&r, next, in(api.JALR, 0, 1, 0, 0))
		if next != 0x1040 || back != 0x1000+uint64(size) {
			t.Errorf("size %d: there %#x, back %#x", size, next, back)
		}
	}
}

func TestP23_6HangsOnItsRegistersAlone(t *testing.T) {
	rnd := random(8)
	for range 5000 {
		x := api.Inst{Op: uint8(rnd.next() % api.Ops), Rd: uint8(rnd.next() % 32), Rs1: uint8(rnd.next() % 32), Rs2: uint8(rnd.next() % 32), Imm: int64(rnd.next()) >> 40, Size: 4}
		r, other := someRegs(&rnd), someRegs(&rnd)
		other[x.Rs1], other[x.Rs2] = r[x.Rs1], r[x.Rs2]
		pc := rnd.next()
		next, ok := exec.Do(&r, pc, x)
		next2, ok2 := exec.Do(&other, pc, x)
		if inst.Class(x.Op) == inst.Branches || !ok {
			x.Rd = x.Rs1
		}
		if next != next2 || ok != ok2 || r[x.Rd] != other[x.Rd] {
			t.Fatalf("%+v hangs on other registers", x)
		}
	}
}

func TestP23_3Addr(t *testing.T) {
	r := exec.Regs{1: 5, 2: minusOne}
	for _, c := range []struct {
		x    api.Inst
		want uint64
		ok   bool
	}{
		{in(api.LW, 3, 1, 0, -1), 4, true}, {in(api.LRW, 3, 1, 0, 0), 5, true}, {in(api.ADD, 3, 1, 1, 0), 0, false}, {in(api.SD, 0, 2, 1, 8), 7, true},
		{in(api.SB, 0, 1, 2, -2048), minusOne - 2042, true}, {in(api.AMOADDD, 3, 2, 1, 9), minusOne, true}, {in(api.LB, 0, 33, 0, 1), 6, true},
	} {
		if got, ok := exec.Addr(&r, c.x); got != c.want || ok != c.ok {
			t.Errorf("Addr of %+v = %#x, %v; want %#x, %v", c.x, got, ok, c.want, c.ok)
		}
	}
	for op := range 256 {
		x := in(uint8(op), 3, 1, 2, 16)
		want, ok := uint64(0), false
		switch inst.Class(uint8(op)) {
		case inst.Loads, inst.Stores:
			want, ok = 21, true
		case inst.Atomics:
			want, ok = 5, true
		}
		if got, is := exec.Addr(&r, x); got != want || is != ok {
			t.Errorf("Addr of operation %d = %d, %v; want %d, %v", op, got, is, want, ok)
		}
		if ok {
			want -= 5
		}
		if got, is := exec.Addr(nil, x); got != want || is != ok {
			t.Errorf("Addr of nil, operation %d = %d, %v; want %d, %v", op, got, is, want, ok)
		}
	}
	if r != (exec.Regs{1: 5, 2: minusOne}) {
		t.Error("Addr changed a register")
	}
}

// running is a call of Run, and what it answers.
type running struct {
	name  string
	pc    uint64
	l     []api.Inst
	most  int
	end   uint64
	steps int
	ok    bool
	want  exec.Regs
}

func TestP23_4Run(t *testing.T) {
	count := []api.Inst{in(api.ADDI, 1, 1, 0, 1), in(api.BNE, 0, 1, 2, -4), in(api.ADDI, 3, 0, 0, 9)}
	for _, c := range []running{
		{"to the end", 0, count, 1000, 12, 21, true, exec.Regs{1: 10, 2: 10, 3: 9}},
		{"as many as may be", 0, count, 21, 12, 21, true, exec.Regs{1: 10, 2: 10, 3: 9}},
		{"one fewer", 0, count, 20, 8, 20, false, exec.Regs{1: 10, 2: 10}},
		{"five", 0, count, 5, 4, 5, false, exec.Regs{1: 3, 2: 10}},
		{"none", 0, count, 0, 0, 0, false, exec.Regs{2: 10}},
		{"below none", 4, count, -1, 4, 0, false, exec.Regs{2: 10}},
		{"from elsewhere", 8, count, 5, 12, 1, true, exec.Regs{2: 10, 3: 9}},
		{"from behind", 12, count, 5, 12, 0, true, exec.Regs{2: 10}},
		{"from behind, none", 12, count, 0, 12, 0, true, exec.Regs{2: 10}},
		{"from far behind", minusOne - 3, count, 5, minusOne - 3, 0, true, exec.Regs{2: 10}},
		{"from between", 2, count, 5, 2, 0, true, exec.Regs{2: 10}},
		{"from a byte behind", 1, count, 5, 1, 0, true, exec.Regs{2: 10}},
		{"no instructions", 0, nil, 5, 0, 0, true, exec.Regs{2: 10}},
		{"another class", 0, []api.Inst{in(api.ADDI, 1, 0, 0, 3), in(api.LW, 1, 0, 0, 0), in(api.ADDI, 1, 0, 0, 4)}, 5, 4, 1, false, exec.Regs{1: 3, 2: 10}},
		{"an illegal one", 0, []api.Inst{{Size: 4}}, 5, 0, 0, false, exec.Regs{2: 10}},
		{"a jump to between", 0, []api.Inst{in(api.JAL, 1, 0, 0, 2), in(api.ADDI, 1, 0, 0, 3)}, 5, 2, 1, true, exec.Regs{1: 4, 2: 10}},
		{"a jump below 0", 0, []api.Inst{in(api.JAL, 0, 0, 0, -4)}, 5, minusOne - 3, 1, true, exec.Regs{2: 10}},
		{"for ever", 0, []api.Inst{in(api.JAL, 0, 0, 0, 0)}, 1234, 0, 1234, false, exec.Regs{2: 10}},
	} {
		r := exec.Regs{2: 10}
		end, steps, ok := exec.Run(&r, c.pc, c.l, c.most)
		if end != c.end || steps != c.steps || ok != c.ok || r != c.want {
			t.Errorf("%s: %#x, %d, %v, %v; want %#x, %d, %v, %v", c.name, end, steps, ok, r, c.end, c.steps, c.ok, c.want)
		}
	}
	if end, steps, ok := exec.Run(nil, 0, count, 9); end != 12 || steps != 3 || !ok { // both registers hold 0
		t.Errorf("of nil: %d, %d, %v", end, steps, ok)
	}
}

// sized is a list whose instructions all say that they are of a size.
func sized(size uint8, l ...api.Inst) []api.Inst {
	for i := range l {
		l[i].Size = size
	}
	return l
}

func TestP23_4EachIsOf4Bytes(t *testing.T) {
	countdown := []api.Inst{in(api.ADDI, 3, 0, 0, 3), in(api.ADDI, 3, 3, 0, -1), in(api.ADDI, 4, 4, 0, 2), in(api.BNE, 0, 3, 0, -8)}
	links := []api.Inst{in(api.JAL, 1, 0, 0, 8), in(api.JAL, 5, 0, 0, 8), in(api.JALR, 6, 1, 0, 0), in(api.AUIPC, 7, 0, 0, 0)}
	for size := range 256 {
		for _, c := range []running{
			{"one of two", 4, []api.Inst{{}, {Op: api.LUI}}, 1, 8, 1, true, exec.Regs{}},
			{"a countdown", 0, countdown, 100, 16, 10, true, exec.Regs{4: 6}},
			{"a branch that is not taken", 0, []api.Inst{in(api.BNE, 0, 0, 0, 8), in(api.ADDI, 3, 0, 0, 1)}, 9, 8, 2, true, exec.Regs{3: 1}},
			{"links", 0, links, 9, 16, 4, true, exec.Regs{1: 4, 5: 8, 6: 12, 7: 12}},
			{"another class", 0, []api.Inst{in(api.ADDI, 3, 0, 0, 1), in(api.LW, 3, 0, 0, 0)}, 9, 4, 1, false, exec.Regs{3: 1}},
			{"as many as may be", 0, countdown, 2, 8, 2, false, exec.Regs{3: 2}},
		} {
			l := sized(uint8(size), append([]api.Inst(nil), c.l...)...)
			before := append([]api.Inst(nil), l...)
			r := exec.Regs{}
			end, steps, ok := exec.Run(&r, c.pc, l, c.most)
			if end != c.end || steps != c.steps || ok != c.ok || r != c.want {
				t.Errorf("%s, size %d: %#x, %d, %v, %v; want %#x, %d, %v, %v", c.name, size, end, steps, ok, r, c.end, c.steps, c.ok, c.want)
			}
			if !slices.Equal(l, before) {
				t.Errorf("%s, size %d: what was handed in was changed", c.name, size)
			}
		}
	}
}
