package csr_test

import (
	"maps"
	"slices"
	"strconv"
	"testing"

	"almonry/api"
	"almonry/csr"
)

type random uint64

func (r *random) next() uint64 {
	*r ^= *r << 13
	*r ^= *r >> 7
	*r ^= *r << 17
	return uint64(*r)
}

// names are the table's, by address.
func names() map[uint16]string {
	m := map[uint16]string{
		0x300: "mstatus", 0x100: "sstatus", 0x301: "misa", 0x302: "medeleg", 0x303: "mideleg", 0x304: "mie", 0x104: "sie", 0x344: "mip", 0x144: "sip",
		0x305: "mtvec", 0x105: "stvec", 0x341: "mepc", 0x141: "sepc", 0x340: "mscratch", 0x342: "mcause", 0x343: "mtval", 0x140: "sscratch", 0x142: "scause", 0x143: "stval",
		0x306: "mcounteren", 0x106: "scounteren", 0x180: "satp", 0x3a0: "pmpcfg0", 0xb00: "mcycle", 0xc00: "cycle", 0xb02: "minstret", 0xc02: "instret", 0xc01: "time",
		0xf11: "mvendorid", 0xf12: "marchid", 0xf13: "mimpid", 0xf14: "mhartid",
	}
	for i := range 8 {
		m[0x3b0+uint16(i)] = "pmpaddr" + strconv.Itoa(i)
	}
	return m
}

var (
	table     = names()
	addresses = slices.Sorted(maps.Keys(table))
)

func mayRead(s api.State, addr uint16, mode uint8) bool {
	if table[addr] == "" || mode != 0 && mode != 1 && mode != 3 || mode < uint8(addr>>8&3) {
		return false
	}
	if addr == 0x180 && mode == 1 && s.Mstatus>>20&1 == 1 {
		return false
	}
	if addr>>8 == 0xc {
		m, sc := s.Mcounteren>>(addr&3)&1 == 1, s.Scounteren>>(addr&3)&1 == 1
		return mode == 3 || mode == 1 && m || mode == 0 && m && sc
	}
	return true
}

const sbits = 0x2 | 0x20 | 0x100 | 0x40000 | 0x80000

// modelRead is the table's column of what is read.
func modelRead(s api.State, time uint64, addr uint16) uint64 {
	switch table[addr] {
	case "mstatus":
		return s.Mstatus | 0xa00000000
	case "sstatus":
		return s.Mstatus&sbits | 0x200000000
	case "misa":
		return 0x8000000000141105
	case "sie":
		return s.Mie & s.Mideleg
	case "mip":
		return s.Mip | s.Hw
	case "sip":
		return (s.Mip | s.Hw) & s.Mideleg
	case "time":
		return time
	case "mvendorid", "marchid", "mimpid":
		return 0
	case "mhartid":
		return s.Id
	case "pmpcfg0":
		return s.Pmpcfg
	}
	if addr >= 0x3b0 && addr < 0x3b8 {
		return s.Pmpaddr[addr-0x3b0]
	}
	f, _ := plain(&s, addr)
	return *f
}

// plain is the field of a register that is one, and what a write keeps.
func plain(s *api.State, addr uint16) (*uint64, uint64) {
	all := ^uint64(0)
	switch table[addr] {
	case "medeleg":
		return &s.Medeleg, 0xb3ff
	case "mideleg":
		return &s.Mideleg, 0x222
	case "mie":
		return &s.Mie, 0xaaa
	case "mtvec":
		return &s.Mtvec, all - 2
	case "stvec":
		return &s.Stvec, all - 2
	case "mepc":
		return &s.Mepc, all - 1
	case "sepc":
		return &s.Sepc, all - 1
	case "mscratch":
		return &s.Mscratch, all
	case "mcause":
		return &s.Mcause, all
	case "mtval":
		return &s.Mtval, all
	case "sscratch":
		return &s.Sscratch, all
	case "scause":
		return &s.Scause, all
	case "stval":
		return &s.Stval, all
	case "mcounteren":
		return &s.Mcounteren, 7
	case "scounteren":
		return &s.Scounteren, 7
	case "satp":
		return &s.Satp, all
	case "mcycle", "cycle":
		return &s.Cycle, all
	case "minstret", "instret":
		return &s.Instret, all
	}
	return nil, 0
}

// modelWrite is the table's column of what a write keeps.
func modelWrite(s api.State, addr uint16, v uint64) api.State {
	switch table[addr] {
	case "mstatus":
		s.Mstatus = v & 0x7e19aa
		if v>>11&3 == 2 {
			s.Mstatus = v & 0x7e01aa
		}
	case "sstatus":
		s.Mstatus = s.Mstatus&^sbits + v&sbits
	case "misa":
	case "sie":
		s.Mie = s.Mie&^s.Mideleg + v&s.Mideleg
	case "mip":
		s.Mip = v & 0x222
	case "sip":
		if s.Mideleg&2 != 0 {
			s.Mip = s.Mip&^2 + v&2
		}
	case "satp":
		if v>>60 == 0 || v>>60 == 8 {
			s.Satp = v
		}
	case "pmpcfg0":
		for i := range 8 {
			old, b := s.Pmpcfg>>(8*i)&255, v>>(8*i)&255&0x9f
			if b&1 == 0 {
				b &= 0xfd
			}
			if old&0x80 != 0 {
				b = old
			}
			s.Pmpcfg = s.Pmpcfg&^(255<<(8*i)) + b<<(8*i)
		}
	default:
		if addr >= 0x3b0 && addr < 0x3b8 {
			i := addr - 0x3b0
			locked := s.Pmpcfg>>(8*i)&0x80 != 0 || i < 7 && s.Pmpcfg>>(8*i+8)&0x98 == 0x88
			if !locked {
				s.Pmpaddr[i] = v & 0x3fffffffffffff
			}
			return s
		}
		f, kept := plain(&s, addr)
		*f = v & kept
	}
	return s
}

// someState is one that may be, with many bits set.
func someState(r *random) api.State {
	s := csr.Reset(r.next())
	for range 60 {
		addrs := []uint16{0x300, 0x302, 0x303, 0x304, 0x344, 0x305, 0x105, 0x341, 0x141, 0x340, 0x342, 0x343, 0x140, 0x142, 0x143, 0x306, 0x106, 0x180, 0xb00, 0xb02, 0x3b0, 0x3b3, 0x3b7, 0x3b1, 0x3b2}
		v := r.next()
		if v%5 == 0 {
			v |= r.next()
		}
		s = modelWrite(s, addrs[r.next()%uint64(len(addrs))], v)
	}
	s = modelWrite(s, 0x180, 8<<60|r.next()>>8)
	s = modelWrite(s, 0x3a0, r.next()&r.next())
	s.Hw = r.next() & 0xa88
	return s
}

func TestP8_1Reset(t *testing.T) {
	for _, id := range []uint64{0, 3, 1<<64 - 1} {
		if s := csr.Reset(id); s != (api.State{Id: id}) {
			t.Errorf("Reset(%d) = %+v", id, s)
		}
	}
}

func TestP8_1Check(t *testing.T) {
	all := ^uint64(0)
	fields := []struct {
		name string
		of   func(*api.State) *uint64
		kept uint64
	}{
		{"Id", func(s *api.State) *uint64 { return &s.Id }, all}, {"Cycle", func(s *api.State) *uint64 { return &s.Cycle }, all}, {"Instret", func(s *api.State) *uint64 { return &s.Instret }, all},
		{"Mstatus", func(s *api.State) *uint64 { return &s.Mstatus }, 0x7e09aa}, {"Mie", func(s *api.State) *uint64 { return &s.Mie }, 0xaaa}, {"Mip", func(s *api.State) *uint64 { return &s.Mip }, 0x222},
		{"Hw", func(s *api.State) *uint64 { return &s.Hw }, 0xa88}, {"Medeleg", func(s *api.State) *uint64 { return &s.Medeleg }, 0xb3ff}, {"Mideleg", func(s *api.State) *uint64 { return &s.Mideleg }, 0x222},
		{"Mtvec", func(s *api.State) *uint64 { return &s.Mtvec }, all - 2}, {"Stvec", func(s *api.State) *uint64 { return &s.Stvec }, all - 2}, {"Mepc", func(s *api.State) *uint64 { return &s.Mepc }, all - 1}, {"Sepc", func(s *api.State) *uint64 { return &s.Sepc }, all - 1},
		{"Mcause", func(s *api.State) *uint64 { return &s.Mcause }, all}, {"Mtval", func(s *api.State) *uint64 { return &s.Mtval }, all}, {"Mscratch", func(s *api.State) *uint64 { return &s.Mscratch }, all}, {"Mcounteren", func(s *api.State) *uint64 { return &s.Mcounteren }, 7},
		{"Scause", func(s *api.State) *uint64 { return &s.Scause }, all}, {"Stval", func(s *api.State) *uint64 { return &s.Stval }, all}, {"Sscratch", func(s *api.State) *uint64 { return &s.Sscratch }, all}, {"Scounteren", func(s *api.State) *uint64 { return &s.Scounteren }, 7},
		{"Satp", func(s *api.State) *uint64 { return &s.Satp }, 8<<60 | 1<<60 - 1},
	}
	for i := range 8 {
		fields = append(fields, struct {
			name string
			of   func(*api.State) *uint64
			kept uint64
		}{"Pmpaddr" + strconv.Itoa(i), func(s *api.State) *uint64 { return &s.Pmpaddr[i] }, 1<<54 - 1})
	}
	for _, f := range fields {
		for b := range 64 {
			s := api.State{}
			*f.of(&s) = 1 << b
			want := api.ErrForm
			if f.kept>>b&1 == 1 {
				want = api.OK
			}
			if f.name == "Mstatus" && b == 12 { // that alone is mode 2
				want = api.ErrForm
			}
			if got := csr.Check(s); got != want {
				t.Errorf("Check of %s bit %d: %v, want %v", f.name, b, got, want)
			}
		}
		s := api.State{}
		*f.of(&s) = f.kept
		if got := csr.Check(s); got != api.OK {
			t.Errorf("Check of %s, all kept bits: %v", f.name, got)
		}
	}
}

func TestP8_1CheckOfMore(t *testing.T) {
	for mpp := range uint64(4) {
		want := api.OK
		if mpp == 2 {
			want = api.ErrForm
		}
		if got := csr.Check(api.State{Mstatus: mpp<<11 | 0x19aa&0x7e01aa}); got != want {
			t.Errorf("MPP %d: %v", mpp, got)
		}
	}
	for top := range uint64(16) {
		want := api.ErrForm
		if top == 0 || top == 8 {
			want = api.OK
		}
		if got := csr.Check(api.State{Satp: top<<60 | 1<<59 | 5}); got != want {
			t.Errorf("Satp's highest bits %d: %v", top, got)
		}
	}
	for i := range 8 {
		for b := range uint64(256) {
			want := api.OK
			if b&0x60 != 0 || b&3 == 2 {
				want = api.ErrForm
			}
			if got := csr.Check(api.State{Pmpcfg: b << (8 * i)}); got != want {
				t.Errorf("Pmpcfg's byte %d, %#x: %v, want %v", i, b, got, want)
			}
		}
	}
}

func TestP8_1NameAndMemory(t *testing.T) {
	for a := range 1 << 16 {
		addr := uint16(a)
		name, ok := csr.Name(addr)
		if want := table[addr]; name != want || ok != (want != "") {
			t.Errorf("Name(%#x) = %q, %v; want %q", addr, name, ok, want)
		}
		if got, want := csr.Memory(addr), addr == 0x3a0 || addr >= 0x3b0 && addr <= 0x3b7; got != want {
			t.Errorf("Memory(%#x) = %v", addr, got)
		}
	}
}

func TestP8_2ReadAndSource(t *testing.T) {
	r := random(7)
	for range 200 {
		s := someState(&r)
		time := r.next()
		for a := range 0x1000 {
			addr := uint16(a)
			if table[addr] == "" && a%37 != 0 {
				continue
			}
			for _, mode := range []uint8{0, 1, 2, 3, 4, 255} {
				checkRead(t, s, time, addr, mode)
			}
		}
	}
	for _, addr := range []uint16{0x1300, 0x8300, 0xffff, 0x7c0, 0x3a1, 0x3b8, 0x3c0, 0xb01, 0xb03, 0xc03, 0xf10, 0xf15, 0, 0x200, 0x101, 0x307, 0x345} {
		checkRead(t, csr.Reset(1), 5, addr, 3)
	}
}

func checkRead(t *testing.T, s api.State, time uint64, addr uint16, mode uint8) {
	t.Helper()
	may := mayRead(s, addr, mode)
	var want, source uint64
	if may {
		want = modelRead(s, time, addr)
		source = want
		if addr == 0x344 {
			source = s.Mip
		} else if addr == 0x144 {
			source = s.Mip & s.Mideleg
		}
	}
	if v, ok := csr.Read(s, time, addr, mode); v != want || ok != may {
		t.Fatalf("Read of %#x in %d: %#x, %v; want %#x, %v (%+v)", addr, mode, v, ok, want, may, s)
	}
	if v, ok := csr.Source(s, time, addr, mode); v != source || ok != may {
		t.Fatalf("Source of %#x in %d: %#x, %v; want %#x, %v (%+v)", addr, mode, v, ok, source, may, s)
	}
}

func TestP8_3And4Write(t *testing.T) {
	r := random(11)
	for range 100 {
		s := someState(&r)
		if csr.Check(s) != api.OK {
			t.Fatalf("the test's state may not be: %+v", s)
		}
		for _, addr := range addresses {
			for _, mode := range []uint8{0, 1, 2, 3, 4, 255} {
				for _, v := range []uint64{0, ^uint64(0), r.next(), r.next() & 0xffff, 2 << 11, 9 << 60, 8<<60 | 5, 0x9a06} {
					checkWrite(t, s, addr, mode, v)
				}
			}
		}
	}
	for _, addr := range []uint16{0x1300, 0x8300, 0xffff, 0x7c0, 0x3a1, 0x3b8, 0xb01, 0} {
		if s, ok := csr.Write(csr.Reset(1), addr, 3, 5); ok || s != csr.Reset(1) {
			t.Errorf("Write of %#x: %+v, %v", addr, s, ok)
		}
	}
}

func checkWrite(t *testing.T, s api.State, addr uint16, mode uint8, v uint64) {
	t.Helper()
	may := mayRead(s, addr, mode) && addr>>10 != 3
	want := s
	if may {
		want = modelWrite(s, addr, v)
	}
	got, ok := csr.Write(s, addr, mode, v)
	if got != want || ok != may {
		t.Fatalf("Write of %#x in %d, %#x: %+v, %v; want %+v, %v", addr, mode, v, got, ok, want, may)
	}
	if csr.Check(got) != api.OK {
		t.Fatalf("Write of %#x in %d, %#x: a state that may not be: %+v", addr, mode, v, got)
	}
	if !may {
		return
	}
	source, _ := csr.Source(s, 0, addr, mode)
	if back, ok := csr.Write(s, addr, mode, source); back != s || !ok {
		t.Fatalf("a write of what is read of %#x changes %+v into %+v", addr, s, back)
	}
}

func TestP8_2And3Examples(t *testing.T) {
	s := csr.Reset(3)
	read := func(addr uint16, mode uint8, want uint64, may bool) {
		t.Helper()
		if v, ok := csr.Read(s, 0, addr, mode); v != want || ok != may {
			t.Errorf("Read of %#x in %d: %#x, %v; want %#x, %v", addr, mode, v, ok, want, may)
		}
	}
	write := func(addr uint16, mode uint8, v uint64) {
		t.Helper()
		var ok bool
		if s, ok = csr.Write(s, addr, mode, v); !ok {
			t.Errorf("Write of %#x is refused", addr)
		}
	}
	read(0xf14, 3, 3, true)
	read(0xf14, 1, 0, false)
	read(0x301, 3, 0x8000000000141105, true)
	read(0x7c0, 3, 0, false)
	read(0x300, 3, 0xa00000000, true)
	read(0xc00, 0, 0, false)
	write(0x306, 3, 1)
	read(0xc00, 0, 0, false)
	read(0xc00, 1, 0, true)
	write(0x106, 3, 1)
	read(0xc00, 0, 0, true)
	write(0x300, 3, ^uint64(0))
	read(0x300, 3, 0xa007e19aa, true)
	read(0x100, 1, 0x2000c0122, true)
	write(0x303, 3, ^uint64(0))
	read(0x303, 3, 0x222, true)
	write(0x304, 3, ^uint64(0))
	read(0x304, 3, 0xaaa, true)
	read(0x104, 1, 0x222, true)
	write(0x144, 1, ^uint64(0))
	read(0x344, 3, 2, true)
	write(0x180, 3, 9<<60)
	read(0x180, 3, 0, true)
	write(0x341, 3, 7)
	read(0x341, 3, 6, true)
	write(0x3a0, 3, 0x9a06)
	read(0x3a0, 3, 0x9804, true)
	write(0x3b1, 3, 5)
	write(0x3a0, 3, 0)
	read(0x3b1, 3, 0, true)
	read(0x3a0, 3, 0x9800, true)
	write(0x3b0, 3, 5)
	read(0x3b0, 3, 5, true)
}

func TestP8_5OneFieldAlone(t *testing.T) {
	views := map[uint16][]uint16{
		0x300: {0x300, 0x100}, 0x100: {0x300, 0x100}, 0x304: {0x304, 0x104}, 0x104: {0x304, 0x104}, 0x344: {0x344, 0x144}, 0x144: {0x344, 0x144},
		0x303: {0x303, 0x104, 0x144}, 0xb00: {0xb00, 0xc00}, 0xb02: {0xb02, 0xc02},
	}
	r := random(19)
	for range 40 {
		s := someState(&r)
		s.Mcounteren, s.Scounteren, s.Mstatus = 7, 7, s.Mstatus&^(1<<20)
		for _, addr := range addresses {
			after, _ := csr.Write(s, addr, 3, r.next())
			seen := views[addr]
			if seen == nil {
				seen = []uint16{addr}
			}
			for _, other := range addresses {
				before, _ := csr.Read(s, 9, other, 3)
				now, _ := csr.Read(after, 9, other, 3)
				touched := false
				for _, v := range seen {
					touched = touched || v == other
				}
				if before != now && !touched {
					t.Fatalf("a write of %#x changes %#x", addr, other)
				}
			}
		}
	}
}

func TestP8_6Locked(t *testing.T) {
	for i := range 8 {
		for _, kind := range []uint64{0, 1, 2, 3} {
			s := csr.Reset(0)
			for k := range uint16(8) {
				s, _ = csr.Write(s, 0x3b0+k, 3, 100+uint64(k))
			}
			s, _ = csr.Write(s, 0x3a0, 3, (0x85|kind<<3)<<(8*i))
			r := random(i + 1)
			for range 200 {
				v := r.next()
				s, _ = csr.Write(s, 0x3a0, 3, v&0x1f1f1f1f1f1f1f1f)
				s, _ = csr.Write(s, 0x3b0+uint16(v>>60&7), 3, v)
				if s.Pmpcfg>>(8*i)&255 != 0x85|kind<<3 || s.Pmpaddr[i] != 100+uint64(i) {
					t.Fatalf("entry %d, locked, became %#x, %d", i, s.Pmpcfg>>(8*i)&255, s.Pmpaddr[i])
				}
				if i > 0 && kind == 1 && s.Pmpaddr[i-1] != 99+uint64(i) {
					t.Fatalf("the beginning of the locked range %d became %d", i, s.Pmpaddr[i-1])
				}
			}
			if i > 0 && kind != 1 && s.Pmpaddr[i-1] == 99+uint64(i) {
				t.Errorf("the entry ahead of %d, which is no range from there, stayed", i)
			}
		}
	}
}

func TestP8_6LowerModes(t *testing.T) {
	r := random(23)
	for range 100 {
		s := someState(&r)
		for _, addr := range addresses {
			_, u := csr.Read(s, 0, addr, 0)
			_, su := csr.Read(s, 0, addr, 1)
			_, m := csr.Read(s, 0, addr, 3)
			if u && !su || su && !m {
				t.Fatalf("%#x: U %v, S %v, M %v", addr, u, su, m)
			}
		}
	}
}

func TestP8_2And3StatesThatMayNotBe(t *testing.T) {
	r := random(29)
	for range 200 {
		s := api.State{Mstatus: r.next(), Mie: r.next(), Mip: r.next(), Hw: r.next(), Mideleg: r.next(), Medeleg: r.next(), Satp: r.next(), Mcounteren: r.next(), Scounteren: r.next(), Mtvec: r.next(), Mepc: r.next(), Cycle: r.next()}
		for _, addr := range addresses {
			for mode := range uint8(5) {
				checkRead(t, s, 77, addr, mode)
				csr.Write(s, addr, mode, r.next())
			}
		}
	}
}
