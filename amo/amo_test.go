package amo_test

import (
	"fmt"
	"math/big"
	"strings"
	"testing"

	"almonry/amo"
	"almonry/api"
	"almonry/bus"
	"almonry/inst"
)

const base = 0x80000000

var edges = []uint64{
	0, 1, 2, 5, 7, 9, 1<<31 - 1, 1 << 31, 1<<31 + 1, 1<<32 - 1, 1 << 32, 1<<32 + 7, 3 << 31, 1<<63 - 1, 1 << 63, 1<<63 + 1, 1<<64 - 1, 1<<64 - 2, 0xffffffff80000000, 0x123456789abcdef0, 0xfedcba9876543210, 0x00000000fffffff0, 0xfffffff000000000,
}

// what tells an AMO's name without its width, and the width; nothing of others.
func what(op uint8) (string, int) {
	names := []string{"swap", "add", "xor", "and", "or", "min", "max", "minu", "maxu"}
	words := []uint8{api.AMOSWAPW, api.AMOADDW, api.AMOXORW, api.AMOANDW, api.AMOORW, api.AMOMINW, api.AMOMAXW, api.AMOMINUW, api.AMOMAXUW}
	wholes := []uint8{api.AMOSWAPD, api.AMOADDD, api.AMOXORD, api.AMOANDD, api.AMOORD, api.AMOMIND, api.AMOMAXD, api.AMOMINUD, api.AMOMAXUD}
	for i, name := range names {
		if op == words[i] {
			return name, 4
		}
		if op == wholes[i] {
			return name, 8
		}
	}
	return "", 0
}

// model is told by whole numbers without bounds.
func model(name string, width int, old, x uint64) uint64 {
	bits := uint(8 * width)
	modulus := new(big.Int).Lsh(big.NewInt(1), bits)
	a, b := new(big.Int).Mod(new(big.Int).SetUint64(old), modulus), new(big.Int).Mod(new(big.Int).SetUint64(x), modulus)
	sa, sb := new(big.Int).Set(a), new(big.Int).Set(b)
	for _, s := range []*big.Int{sa, sb} {
		if s.Bit(int(bits)-1) == 1 {
			s.Sub(s, modulus)
		}
	}
	r := new(big.Int)
	switch name {
	case "swap":
		r = b
	case "add":
		r.Add(a, b)
	case "xor":
		r.Xor(a, b)
	case "and":
		r.And(a, b)
	case "or":
		r.Or(a, b)
	case "min", "max":
		r = a
		if (sa.Cmp(sb) < 0) != (name == "min") {
			r = b
		}
	case "minu", "maxu":
		r = a
		if (a.Cmp(b) < 0) != (name == "minu") {
			r = b
		}
	}
	return new(big.Int).Mod(r, modulus).Uint64()
}

func TestP24_1Make(t *testing.T) {
	for op := range 256 {
		name, width := what(uint8(op))
		for _, old := range edges {
			for _, x := range edges {
				want := uint64(0)
				if name != "" {
					want = model(name, width, old, x)
				}
				if got, ok := amo.Make(uint8(op), old, x); got != want || ok != (name != "") {
					t.Fatalf("Make(%d, %#x, %#x) = %#x, %v; want %#x", op, old, x, got, ok, want)
				}
			}
		}
	}
}

func TestP24_1Told(t *testing.T) {
	for op := range 256 {
		word := op >= api.LRW && op <= api.AMOMAXUW
		for _, v := range edges {
			want := v
			if word {
				want = uint64(int64(int32(v)))
			}
			if got := amo.Told(uint8(op), v); got != want {
				t.Errorf("Told(%d, %#x) = %#x, want %#x", op, v, got, want)
			}
		}
	}
}

func TestP24_1Examples(t *testing.T) {
	for _, c := range []struct {
		op           uint8
		old, x, want uint64
		ok           bool
	}{
		{api.AMOADDW, 1<<31 - 1, 1, 1 << 31, true}, {api.AMOMIND, 5, 1<<64 - 1, 1<<64 - 1, true}, {api.AMOMINUD, 5, 1<<64 - 1, 5, true}, {api.AMOMAXW, 1<<32 - 1, 7, 7, true}, {api.AMOMAXUW, 1<<32 - 1, 7, 1<<32 - 1, true},
		{api.LRW, 1, 2, 0, false}, {api.SCD, 1, 2, 0, false}, {api.ADD, 1, 2, 0, false},
	} {
		if got, ok := amo.Make(c.op, c.old, c.x); got != c.want || ok != c.ok {
			t.Errorf("Make(%d, %#x, %#x) = %#x, %v; want %#x", c.op, c.old, c.x, got, ok, c.want)
		}
	}
	if got := amo.Told(api.AMOADDW, 1<<31); got != 1<<64-1<<31 {
		t.Errorf("Told: %#x", got)
	}
	if got := amo.Told(api.LD, 5); got != 5 {
		t.Errorf("Told: %#x", got)
	}
}

func fresh(t *testing.T) *bus.Bus {
	t.Helper()
	b, e := bus.New(1, 0, nil)
	if e != api.OK {
		t.Fatal(e)
	}
	return b
}

func run(t *testing.T, m amo.Memory, op uint8, pa, x, want uint64, wantOk bool) {
	t.Helper()
	if rd, ok := amo.Run(m, op, pa, x); rd != want || ok != wantOk {
		t.Errorf("Run(%d, %#x, %#x) = %#x, %v; want %#x, %v", op, pa, x, rd, ok, want, wantOk)
	}
}

func stands(t *testing.T, b *bus.Bus, pa uint64, width int, want uint64) {
	t.Helper()
	if v, _ := b.Read(pa, width); v != want {
		t.Errorf("at %#x stands %#x, want %#x", pa, v, want)
	}
}

func TestP24_2Examples(t *testing.T) {
	b := fresh(t)
	const at = base + 8
	b.Write(at, 7, 8)
	run(t, b, api.AMOSWAPD, at, 9, 7, true)
	stands(t, b, at, 8, 9)
	run(t, b, api.LRW, at, 0, 9, true)
	run(t, b, api.SCW, at, 5, 0, true)
	stands(t, b, at, 8, 5)
	run(t, b, api.SCW, at, 6, 1, true)
	stands(t, b, at, 8, 5)
	run(t, b, api.LRD, at, 0, 5, true)
	b.Write(at+7, 0, 1)
	run(t, b, api.SCD, at, 6, 1, true)
	run(t, b, api.LRD, base+4, 0, 0, false)
	run(t, b, api.LRW, 0x10000000, 0, 0, false)
}

// memory records what it is asked, and refuses what it is set to.
type memory struct {
	log    []string
	refuse string
	ram    bool
	held   bool
	v      uint64
}

func (m *memory) did(format string, a ...any) bool {
	s := fmt.Sprintf(format, a...)
	m.log = append(m.log, s)
	return m.refuse == "" || !strings.HasPrefix(s, m.refuse)
}

func (m *memory) Read(pa uint64, width int) (uint64, bool) {
	return m.v, m.did("read %x %d", pa, width)
}

func (m *memory) Write(pa, v uint64, width int) bool {
	if width == 4 {
		v &= 1<<32 - 1
	}
	return m.did("write %x %x %d", pa, v, width)
}

func (m *memory) RAM(pa uint64, n int) bool {
	if pa != 16 || n != 4 && n != 8 {
		panic("another place")
	}
	return m.ram
}

func (m *memory) Reserve(pa uint64, width int) bool { return m.did("reserve %x %d", pa, width) }
func (m *memory) Held(pa uint64, width int) bool {
	return m.held && pa == 16 && (width == 4 || width == 8)
}
func (m *memory) Drop() { m.did("drop") }

func TestP24_2Calls(t *testing.T) {
	const v = 0xfedcba98_87654321
	for _, c := range []struct {
		name   string
		m      memory
		op     uint8
		x      uint64
		rd     uint64
		ok     bool
		writes string
		last   string
	}{
		{"LR", memory{ram: true, v: v}, api.LRD, 1, v, true, "", "reserve 10 8"},
		{"LR of four bytes", memory{ram: true, v: v & (1<<32 - 1)}, api.LRW, 1, 0xffffffff87654321, true, "", "reserve 10 4"},
		{"LR, no RAM", memory{v: v}, api.LRD, 1, 0, false, "", ""},
		{"LR, no read", memory{ram: true, v: v, refuse: "read"}, api.LRD, 1, 0, false, "", ""},
		{"LR, no reservation", memory{ram: true, v: v, refuse: "reserve"}, api.LRD, 1, 0, false, "", ""},
		{"SC that is held", memory{ram: true, held: true}, api.SCD, v, 0, true, "write 10 fedcba9887654321 8", "drop"},
		{"SC of four bytes", memory{ram: true, held: true}, api.SCW, v, 0, true, "write 10 87654321 4", "drop"},
		{"SC that is not", memory{ram: true}, api.SCD, v, 1, true, "", "drop"},
		{"SC of four bytes that is not", memory{ram: true}, api.SCW, v, 1, true, "", "drop"},
		{"SC, no write", memory{ram: true, held: true, refuse: "write"}, api.SCD, v, 1, true, "write 10 fedcba9887654321 8", "drop"},
		{"SC, no RAM", memory{held: true}, api.SCD, v, 0, false, "", ""},
		{"an AMO", memory{ram: true, v: v}, api.AMOADDD, 1, v, true, "write 10 fedcba9887654322 8", ""},
		{"an AMO of four bytes", memory{ram: true, v: v & (1<<32 - 1)}, api.AMOADDW, 0xf_00000001, 0xffffffff87654321, true, "write 10 87654322 4", ""},
		{"an AMO, no RAM", memory{v: v}, api.AMOADDD, 1, 0, false, "", ""},
		{"an AMO, no read", memory{ram: true, v: v, refuse: "read"}, api.AMOADDD, 1, 0, false, "", ""},
		{"an AMO, no write", memory{ram: true, v: v, refuse: "write"}, api.AMOADDD, 1, 0, false, "write 10 fedcba9887654322 8", ""},
		{"no atomic", memory{ram: true, v: v}, api.LD, 1, 0, false, "", ""},
		{"no operation", memory{ram: true, v: v}, 0, 1, 0, false, "", ""},
		{"no operation above", memory{ram: true, v: v}, 255, 1, 0, false, "", ""},
	} {
		m := c.m
		if rd, ok := amo.Run(&m, c.op, 16, c.x); rd != c.rd || ok != c.ok {
			t.Errorf("%s: %#x, %v; want %#x, %v", c.name, rd, ok, c.rd, c.ok)
		}
		var writes []string
		last := ""
		for _, s := range m.log {
			if strings.HasPrefix(s, "write") {
				writes = append(writes, s)
			}
			if !strings.HasPrefix(s, "read") && !strings.HasPrefix(s, "write") {
				last = s
			}
		}
		if got := strings.Join(writes, "; "); got != c.writes {
			t.Errorf("%s: %s; want %s", c.name, got, c.writes)
		}
		if c.name == "LR, no reservation" || c.name == "LR, no read" {
			continue // what was tried is of no account there
		}
		if last != c.last {
			t.Errorf("%s: at last %q, want %q", c.name, last, c.last)
		}
	}
}

func TestP24_2NothingDone(t *testing.T) {
	for op := range 256 {
		if rd, ok := amo.Run(nil, uint8(op), 16, 1); rd != 0 || ok {
			t.Errorf("of nil: %d, %v", rd, ok)
		}
		b := fresh(t)
		b.Write(base+8, 1<<64-1, 8)
		b.Reserve(base+8, 8)
		before := b.Dump()
		atomic := inst.Class(uint8(op)) == inst.Atomics
		width := uint64(inst.Width(uint8(op)))
		for d := range uint64(8) {
			if !atomic || d%width != 0 {
				run(t, b, uint8(op), base+8+d, 1, 0, false)
			}
		}
		for _, pa := range []uint64{0, 8, base - 8, base - width, base + 4096, 0x02004000, 0x10001000, 0x10001008, 0x10002008, 1<<64 - 8} {
			run(t, b, uint8(op), pa, 1, 0, false)
		}
		if b.Dump() != before || !b.Held(base+8, 8) {
			t.Errorf("operation %d: something was done", op)
		}
	}
}

// TestP24_3: random atomics and stores on a bus, over a model of bytes and a reservation.
func TestP24_3Bus(t *testing.T) {
	n := uint64(1)
	next := func(end uint64) uint64 {
		n = n*6364136223846793005 + 1442695040888963407
		return (n >> 20) % end
	}
	b := fresh(t)
	var mem [64]byte
	resAt, resWidth := uint64(0), 0
	get := func(at uint64, width int) (v uint64) {
		for i := range width {
			v |= uint64(mem[at+uint64(i)]) << (8 * i)
		}
		return v
	}
	put := func(at uint64, width int, v uint64) {
		for i := range width {
			mem[at+uint64(i)] = byte(v >> (8 * i))
			if (at+uint64(i))/8 == resAt/8 {
				resWidth = 0
			}
		}
	}
	signed := func(v uint64, width int) uint64 {
		if width == 4 {
			return uint64(int64(int32(v)))
		}
		return v
	}
	for step := range 60000 {
		op := uint8(api.LRW + next(api.AMOMAXUD-api.LRW+1))
		if next(2) == 0 {
			op = []uint8{api.LRW, api.SCW, api.LRD, api.SCD}[next(4)]
		}
		width := inst.Width(op)
		at := next(16) * 4
		x := edges[next(uint64(len(edges)))]
		if next(6) == 0 {
			w := 1 << next(4)
			at := next(64 - uint64(w))
			b.Write(base+at, x, w)
			put(at, w, x)
		}
		if at%uint64(width) != 0 {
			run(t, b, op, base+at, x, 0, false)
			continue
		}
		old := get(at, width)
		switch op {
		case api.LRW, api.LRD:
			run(t, b, op, base+at, x, signed(old, width), true)
			resAt, resWidth = at, width
		case api.SCW, api.SCD:
			if resWidth == width && resAt == at {
				run(t, b, op, base+at, x, 0, true)
				put(at, width, x)
			} else {
				run(t, b, op, base+at, x, 1, true)
			}
			resWidth = 0
		default:
			run(t, b, op, base+at, x, signed(old, width), true)
			name, _ := what(op)
			put(at, width, model(name, width, old, x))
		}
		if s, _ := b.Bytes(base, 64); s != string(mem[:]) || b.Held(base+resAt, resWidth) != (resWidth != 0) || b.Held(base+at, width) != (resAt == at && resWidth == width) {
			t.Fatalf("step %d: %q, want %q", step, s, mem[:])
		}
		if t.Failed() {
			t.Fatalf("at step %d", step)
		}
	}
}

func TestP24_4Pairs(t *testing.T) {
	made := func(op uint8, a, b uint64) uint64 {
		t.Helper()
		v, ok := amo.Make(op, a, b)
		if !ok {
			t.Fatalf("Make of %d", op)
		}
		return v
	}
	for _, a := range edges {
		for _, b := range edges {
			for _, p := range [][2]uint8{{api.AMOMIND, api.AMOMAXD}, {api.AMOMINUD, api.AMOMAXUD}} {
				if x, y := made(p[0], a, b), made(p[1], a, b); x+y != a+b || x != a && x != b {
					t.Fatalf("%d and %d of %#x, %#x: %#x, %#x", p[0], p[1], a, b, x, y)
				}
			}
			for _, p := range [][2]uint8{{api.AMOMINW, api.AMOMAXW}, {api.AMOMINUW, api.AMOMAXUW}} {
				if x, y := made(p[0], a, b), made(p[1], a, b); uint32(x+y) != uint32(a+b) || x>>32 != 0 || y>>32 != 0 {
					t.Fatalf("%d and %d of %#x, %#x: %#x, %#x", p[0], p[1], a, b, x, y)
				}
			}
			for _, op := range []uint8{api.AMOANDD, api.AMOORD, api.AMOMIND, api.AMOMAXD, api.AMOMINUD, api.AMOMAXUD, api.AMOANDW, api.AMOMINW, api.AMOMAXUW} {
				if once := made(op, a, b); made(op, once, b) != once {
					t.Fatalf("%d of %#x, %#x, twice", op, a, b)
				}
			}
			if made(api.AMOADDD, made(api.AMOADDD, a, b), -b) != a || made(api.AMOXORD, made(api.AMOXORD, a, b), b) != a {
				t.Fatalf("%#x, %#x: not taken back", a, b)
			}
		}
	}
}
