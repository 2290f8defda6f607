package alu_test

import (
	"math/big"
	"testing"

	"almonry/alu"
	"almonry/api"
)

const (
	least     = uint64(1) << 63
	leastWord = uint64(0xffffffff80000000)
	minusOne  = ^uint64(0)
)

func neg(n uint64) uint64 { return -n }

// edges are numbers at which operations change what they do.
var edges = []uint64{
	0, 1, 2, 3, 4, 5, 7, 31, 32, 33, 63, 64, 65, 127, 1<<31 - 1, 1 << 31, 1<<31 + 1, 1<<32 - 1, 1 << 32, 1<<32 + 7, 3 << 31,
	1<<63 - 1, least, least + 1, leastWord, leastWord + 1, minusOne, minusOne - 1, neg(7), 0x123456789abcdef0, 0xfedcba9876543210, 0xdeadbeef80000000, 0x00000000ffffffff, 0xffffffff00000000,
}

func numbers() []uint64 {
	l := append([]uint64(nil), edges...)
	n := uint64(88172645463325252)
	for range 40 {
		n ^= n << 13
		n ^= n >> 7
		n ^= n << 17
		l = append(l, n, n>>32, n>>50)
	}
	return l
}

var (
	modulus = new(big.Int).Lsh(big.NewInt(1), 64)
	word    = new(big.Int).Lsh(big.NewInt(1), 32)
)

func unsigned(n uint64) *big.Int { return new(big.Int).SetUint64(n) }
func signed(n uint64) *big.Int   { return big.NewInt(int64(n)) }
func lowU(n uint64) *big.Int     { return unsigned(uint64(uint32(n))) }
func lowS(n uint64) *big.Int     { return big.NewInt(int64(int32(uint32(n)))) }

func bits64(n *big.Int) uint64 { return new(big.Int).Mod(n, modulus).Uint64() }

func extended(n *big.Int) uint64 {
	return uint64(int64(int32(uint32(new(big.Int).Mod(n, word).Uint64()))))
}

func quo(a, b *big.Int) *big.Int {
	if b.Sign() == 0 {
		return big.NewInt(-1)
	}
	return new(big.Int).Quo(a, b)
}

func rem(a, b *big.Int) *big.Int {
	if b.Sign() == 0 {
		return a
	}
	return new(big.Int).Rem(a, b)
}

func bit(is bool) uint64 {
	if is {
		return 1
	}
	return 0
}

func sum(a, b *big.Int) *big.Int  { return new(big.Int).Add(a, b) }
func less(a, b *big.Int) *big.Int { return new(big.Int).Sub(a, b) }
func mul(a, b *big.Int) *big.Int  { return new(big.Int).Mul(a, b) }
func left(a *big.Int, n uint64) *big.Int {
	return new(big.Int).Lsh(a, uint(n))
}

// right is the quotient by a power of 2, downwards.
func right(a *big.Int, n uint64) *big.Int { return new(big.Int).Rsh(a, uint(n)) }

// model is the chapter's table, told by whole numbers without bounds.
var model = map[uint8]func(a, b uint64) uint64{
	api.ADD:    func(a, b uint64) uint64 { return bits64(sum(unsigned(a), unsigned(b))) },
	api.SUB:    func(a, b uint64) uint64 { return bits64(less(unsigned(a), unsigned(b))) },
	api.XOR:    func(a, b uint64) uint64 { return new(big.Int).Xor(unsigned(a), unsigned(b)).Uint64() },
	api.OR:     func(a, b uint64) uint64 { return new(big.Int).Or(unsigned(a), unsigned(b)).Uint64() },
	api.AND:    func(a, b uint64) uint64 { return new(big.Int).And(unsigned(a), unsigned(b)).Uint64() },
	api.SLL:    func(a, b uint64) uint64 { return bits64(left(unsigned(a), b%64)) },
	api.SRL:    func(a, b uint64) uint64 { return bits64(right(unsigned(a), b%64)) },
	api.SRA:    func(a, b uint64) uint64 { return bits64(right(signed(a), b%64)) },
	api.SLT:    func(a, b uint64) uint64 { return bit(signed(a).Cmp(signed(b)) < 0) },
	api.SLTU:   func(a, b uint64) uint64 { return bit(unsigned(a).Cmp(unsigned(b)) < 0) },
	api.ADDW:   func(a, b uint64) uint64 { return extended(sum(lowU(a), lowU(b))) },
	api.SUBW:   func(a, b uint64) uint64 { return extended(less(lowU(a), lowU(b))) },
	api.SLLW:   func(a, b uint64) uint64 { return extended(left(lowU(a), b%32)) },
	api.SRLW:   func(a, b uint64) uint64 { return extended(right(lowU(a), b%32)) },
	api.SRAW:   func(a, b uint64) uint64 { return extended(right(lowS(a), b%32)) },
	api.MUL:    func(a, b uint64) uint64 { return bits64(mul(unsigned(a), unsigned(b))) },
	api.MULH:   func(a, b uint64) uint64 { return bits64(right(mul(signed(a), signed(b)), 64)) },
	api.MULHSU: func(a, b uint64) uint64 { return bits64(right(mul(signed(a), unsigned(b)), 64)) },
	api.MULHU:  func(a, b uint64) uint64 { return bits64(right(mul(unsigned(a), unsigned(b)), 64)) },
	api.DIV:    func(a, b uint64) uint64 { return bits64(quo(signed(a), signed(b))) },
	api.DIVU:   func(a, b uint64) uint64 { return bits64(quo(unsigned(a), unsigned(b))) },
	api.REM:    func(a, b uint64) uint64 { return bits64(rem(signed(a), signed(b))) },
	api.REMU:   func(a, b uint64) uint64 { return bits64(rem(unsigned(a), unsigned(b))) },
	api.MULW:   func(a, b uint64) uint64 { return extended(mul(lowU(a), lowU(b))) },
	api.DIVW:   func(a, b uint64) uint64 { return extended(quo(lowS(a), lowS(b))) },
	api.DIVUW:  func(a, b uint64) uint64 { return extended(quo(lowU(a), lowU(b))) },
	api.REMW:   func(a, b uint64) uint64 { return extended(rem(lowS(a), lowS(b))) },
	api.REMUW:  func(a, b uint64) uint64 { return extended(rem(lowU(a), lowU(b))) },
}

// withNumber tells of each operation with a number its register operation.
var withNumber = map[uint8]uint8{
	api.ADDI: api.ADD, api.SLTI: api.SLT, api.SLTIU: api.SLTU, api.XORI: api.XOR, api.ORI: api.OR, api.ANDI: api.AND,
	api.SLLI: api.SLL, api.SRLI: api.SRL, api.SRAI: api.SRA, api.ADDIW: api.ADDW, api.SLLIW: api.SLLW, api.SRLIW: api.SRLW, api.SRAIW: api.SRAW,
}

func TestP2_1Reg(t *testing.T) {
	for op := range 256 {
		op := uint8(op)
		want, known := withNumber[op]
		if _, ok := model[op]; ok {
			want, known = op, true
		}
		if got, ok := alu.Reg(op); got != want || ok != known {
			t.Errorf("Reg(%d) = %d, %v; want %d, %v", op, got, ok, want, known)
		}
	}
}

func TestP2_1Do(t *testing.T) {
	l := numbers()
	for op := range 256 {
		op := uint8(op)
		reg, ok := alu.Reg(op)
		if !ok {
			if v, ok := alu.Do(op, 5, 7); v != 0 || ok {
				t.Errorf("Do(%d) = %d, %v; want none", op, v, ok)
			}
			continue
		}
		do := model[reg]
		if do == nil {
			t.Errorf("Reg(%d) = %d, no register operation", op, reg)
			continue
		}
		for _, a := range l {
			for _, b := range l {
				if got, ok := alu.Do(op, a, b); got != do(a, b) || !ok {
					t.Fatalf("Do(%d, %#x, %#x) = %#x, %v; want %#x", op, a, b, got, ok, do(a, b))
				}
			}
		}
	}
}

func TestP2_1Examples(t *testing.T) {
	cases := []struct {
		op         uint8
		a, b, want uint64
	}{
		{api.ADD, minusOne, 2, 1}, {api.SUBW, 0, 1, minusOne}, {api.SLLW, 1, 31, leastWord},
		{api.SRA, least, 63, minusOne}, {api.SRL, least, 63, 1}, {api.SRAW, 1 << 31, 4, neg(1 << 27)}, {api.SRLW, 1 << 31, 4, 1 << 27},
		{api.MULHU, minusOne, minusOne, minusOne - 1}, {api.MULH, minusOne, minusOne, 0}, {api.MULHSU, minusOne, minusOne, minusOne},
		{api.DIV, neg(7), 2, neg(3)}, {api.REM, neg(7), 2, minusOne}, {api.DIVU, neg(7), 2, 1<<63 - 4},
		{api.DIV, least, minusOne, least}, {api.REM, least, minusOne, 0}, {api.DIV, 5, 0, minusOne}, {api.REM, 5, 0, 5},
		{api.DIVW, leastWord, minusOne, leastWord}, {api.DIVUW, leastWord, 0, minusOne}, {api.REMUW, 1<<32 + 7, 0, 7},
		{api.REMW, leastWord, minusOne, 0}, {api.REMW, 5 << 32, 1 << 40, 0}, {api.REMW, 1<<32 + 1<<31, 1 << 32, leastWord}, {api.DIVU, 5, 0, minusOne}, {api.REMU, 5, 0, 5},
		{api.SLTIU, 5, minusOne, 1}, {api.SLTI, 5, minusOne, 0},
	}
	for _, c := range cases {
		if got, ok := alu.Do(c.op, c.a, c.b); got != c.want || !ok {
			t.Errorf("Do(%d, %#x, %#x) = %#x, %v; want %#x", c.op, c.a, c.b, got, ok, c.want)
		}
	}
}

func TestP2_2Branch(t *testing.T) {
	l := numbers()
	taken := map[uint8]func(a, b uint64) bool{
		api.BEQ:  func(a, b uint64) bool { return unsigned(a).Cmp(unsigned(b)) == 0 },
		api.BNE:  func(a, b uint64) bool { return unsigned(a).Cmp(unsigned(b)) != 0 },
		api.BLT:  func(a, b uint64) bool { return signed(a).Cmp(signed(b)) < 0 },
		api.BGE:  func(a, b uint64) bool { return signed(a).Cmp(signed(b)) >= 0 },
		api.BLTU: func(a, b uint64) bool { return unsigned(a).Cmp(unsigned(b)) < 0 },
		api.BGEU: func(a, b uint64) bool { return unsigned(a).Cmp(unsigned(b)) >= 0 },
	}
	for op := range 256 {
		op := uint8(op)
		is := taken[op]
		if is == nil {
			for _, b := range []uint64{4, 5, 6} {
				if got, known := alu.Branch(op, 5, b); got || known {
					t.Errorf("Branch(%d, 5, %d) = %v, %v; want false, false", op, b, got, known)
				}
			}
			continue
		}
		for _, a := range l {
			for _, b := range l {
				if got, known := alu.Branch(op, a, b); got != is(a, b) || !known {
					t.Fatalf("Branch(%d, %#x, %#x) = %v, %v", op, a, b, got, known)
				}
			}
		}
	}
}

func do(t *testing.T, op uint8, a, b uint64) uint64 {
	t.Helper()
	v, ok := alu.Do(op, a, b)
	if !ok {
		t.Fatalf("Do(%d): unknown", op)
	}
	return v
}

func TestP2_3QuotientAndRest(t *testing.T) {
	l := numbers()
	for _, a := range l {
		for _, b := range l {
			q, r := do(t, api.DIV, a, b), do(t, api.REM, a, b)
			if q*b+r != a {
				t.Fatalf("DIV, REM of %#x, %#x: %#x, %#x", a, b, q, r)
			}
			if b != 0 && signed(r).CmpAbs(signed(b)) >= 0 {
				t.Fatalf("REM of %#x, %#x: %#x isn't nearer to 0", a, b, r)
			}
			q, r = do(t, api.DIVU, a, b), do(t, api.REMU, a, b)
			if q*b+r != a || b != 0 && r >= b {
				t.Fatalf("DIVU, REMU of %#x, %#x: %#x, %#x", a, b, q, r)
			}
		}
	}
}

func TestP2_4WholeProduct(t *testing.T) {
	l := numbers()
	for _, a := range l {
		for _, b := range l {
			whole := sum(left(unsigned(do(t, api.MULHU, a, b)), 64), unsigned(do(t, api.MUL, a, b)))
			if whole.Cmp(mul(unsigned(a), unsigned(b))) != 0 {
				t.Fatalf("MULHU, MUL of %#x, %#x", a, b)
			}
			want := do(t, api.MULHU, a, b)
			if int64(a) < 0 {
				want -= b
			}
			if got := do(t, api.MULHSU, a, b); got != want {
				t.Fatalf("MULHSU of %#x, %#x = %#x, want %#x", a, b, got, want)
			}
			if int64(b) < 0 {
				want -= a
			}
			if got := do(t, api.MULH, a, b); got != want {
				t.Fatalf("MULH of %#x, %#x = %#x, want %#x", a, b, got, want)
			}
		}
	}
}

func TestP2_5LowWords(t *testing.T) {
	l := numbers()
	words := []uint8{
		api.ADDW, api.SUBW, api.SLLW, api.SRLW, api.SRAW, api.ADDIW, api.SLLIW, api.SRLIW, api.SRAIW,
		api.MULW, api.DIVW, api.DIVUW, api.REMW, api.REMUW,
	}
	for _, op := range words {
		for i, a := range l {
			for j, b := range l {
				v := do(t, op, a, b)
				if v != uint64(int64(int32(v))) {
					t.Fatalf("Do(%d, %#x, %#x) = %#x isn't sign-extended", op, a, b, v)
				}
				// Whatever stands above the low words makes no difference.
				a2, b2 := uint64(uint32(a))|l[j]<<32, uint64(uint32(b))|l[i]<<32
				if v2 := do(t, op, a2, b2); v2 != v {
					t.Fatalf("Do(%d, %#x, %#x) = %#x, but of %#x, %#x %#x", op, a, b, v, a2, b2, v2)
				}
			}
		}
	}
}
