package mmu_test

import (
	"fmt"
	"maps"
	"testing"

	"almonry/api"
	"almonry/mmu"
	"almonry/pmp"
	"almonry/walk"
)

const (
	base  = 0x80000000
	sv39  = 8 << 60
	mprv  = 1 << 17
	sum   = 1 << 18
	mxr   = 1 << 19
	pages = 6
)

// board is RAM of six pages, and a device of eight bytes that counts how it is accessed; it may refuse all writes.
type board struct {
	b       [pages * 4096]byte
	device  uint64
	log     []string
	refuses bool
}

func (p *board) RAM(pa uint64, n int) bool {
	return n >= 0 && pa >= base && pa-base <= uint64(len(p.b)) && uint64(n) <= uint64(len(p.b))-(pa-base)
}

func (p *board) Read(pa uint64, width int) (uint64, bool) {
	p.log = append(p.log, fmt.Sprintf("r%x", pa))
	if pa == 0x10000000 && width == 8 {
		return p.device, true
	}
	if !p.RAM(pa, width) {
		return 0x77, false
	}
	var v uint64
	for i := range width {
		v |= uint64(p.b[pa-base+uint64(i)]) << (8 * i)
	}
	return v, true
}

func (p *board) Write(pa, v uint64, width int) bool {
	p.log = append(p.log, fmt.Sprintf("w%x", pa))
	if p.refuses {
		return false
	}
	if pa == 0x10000000 && width == 8 {
		p.device = v
		return true
	}
	if !p.RAM(pa, width) {
		return false
	}
	for i := range width {
		p.b[pa-base+uint64(i)] = byte(v >> (8 * i))
	}
	return true
}

// open is a state whose first entry of the PMP allows all.
func open() api.State {
	return api.State{Pmpcfg: 0x1f, Pmpaddr: [8]uint64{1<<54 - 1}}
}

func trap(cause uint8, tval uint64) api.Trap { return api.Trap{Is: true, Cause: cause, Tval: tval} }

type bench struct {
	t *testing.T
	p *board
	m *mmu.Mmu
}

func fresh(t *testing.T) bench {
	t.Helper()
	p := &board{}
	m := mmu.New(p)
	if m == nil {
		t.Fatal("New is nil")
	}
	return bench{t, p, m}
}

func (x bench) load(s api.State, mode uint8, va uint64, width int, want uint64, wantT api.Trap) {
	x.t.Helper()
	if v, tr := x.m.Load(s, mode, va, width); v != want || tr != wantT {
		x.t.Errorf("Load(%d, %#x, %d) = %#x, %+v; want %#x, %+v", mode, va, width, v, tr, want, wantT)
	}
}

func (x bench) store(s api.State, mode uint8, va uint64, width int, v uint64, want api.Trap) {
	x.t.Helper()
	if tr := x.m.Store(s, mmu.Ask{Va: va, Kind: api.Fetch, Mode: mode, Width: width}, v); tr != want {
		x.t.Errorf("Store(%d, %#x, %d) = %+v, want %+v", mode, va, width, tr, want)
	}
}

func (x bench) fetch(s api.State, mode uint8, va uint64, want uint16, wantT api.Trap) {
	x.t.Helper()
	if v, tr := x.m.Fetch(s, mode, va); v != want || tr != wantT {
		x.t.Errorf("Fetch(%d, %#x) = %#x, %+v; want %#x, %+v", mode, va, v, tr, want, wantT)
	}
}

func TestP25_1And2Examples(t *testing.T) {
	x := fresh(t)
	s := open()
	x.store(s, api.M, base+0x10, 8, 5, api.Trap{})
	x.load(s, api.M, base+0x10, 4, 5, api.Trap{})
	x.load(s, api.M, base+0x11, 2, 0, trap(4, base+0x11))
	x.load(s, api.M, 0x90000000, 4, 0, trap(5, 0x90000000))
	x.fetch(s, api.M, base+pages*4096, 0, trap(1, base+pages*4096))
	paged := s
	paged.Satp = sv39 | 0x80000
	x.load(paged, api.S, 0x10, 8, 0, trap(13, 0x10))
	x.load(paged, api.M, base+0x10, 8, 5, api.Trap{})
	paged.Mstatus = mprv | api.S<<11
	x.load(paged, api.M, 0x10, 8, 0, trap(13, 0x10))
	x.load(api.State{}, api.S, base+0x10, 8, 0, trap(5, base+0x10))
	x.load(api.State{}, api.M, base+0x10, 8, 5, api.Trap{})
}

func TestP25_1Nil(t *testing.T) {
	if mmu.New(nil) != nil {
		t.Error("New of nil is no nil")
	}
	for name, m := range map[string]*mmu.Mmu{"nil": nil, "not made": {}} {
		for kind, cause := range []uint8{1, 5, 7} {
			for _, va := range []uint64{0, 7, base, 1<<64 - 1} {
				for _, width := range []int{0, 1, 8} {
					if pa, tr := m.Reach(open(), mmu.Ask{Va: va, Kind: uint8(kind), Mode: 3, Width: width}); pa != 0 || tr != trap(cause, va) {
						t.Errorf("%s: Reach %#x, %+v", name, pa, tr)
					}
				}
			}
		}
		if v, tr := m.Fetch(open(), 3, 4); v != 0 || tr != trap(1, 4) {
			t.Errorf("%s: Fetch", name)
		}
		if v, tr := m.Load(open(), 3, 4, 4); v != 0 || tr != trap(5, 4) {
			t.Errorf("%s: Load", name)
		}
		if tr := m.Store(open(), mmu.Ask{Va: 4, Mode: 3, Width: 4}, 1); tr != trap(7, 4) {
			t.Errorf("%s: Store", name)
		}
		m.Wrote(0, 8)
		m.Drop(0)
		m.Flush()
		if m.Kept() != 0 {
			t.Errorf("%s: Kept", name)
		}
	}
}

func TestP25_1Mode(t *testing.T) {
	for mode := range uint8(4) {
		for kind := range uint8(3) {
			for mpp := range uint64(4) {
				for _, bit := range []uint64{0, mprv} {
					want := mode
					if mode == 3 && kind != api.Fetch && bit != 0 {
						want = uint8(mpp)
					}
					if got := mmu.Mode(api.State{Mstatus: mpp<<11 | bit | 1<<16 | 1<<13}, mode, kind); got != want {
						t.Errorf("Mode(%d, %d) with MPP %d, MPRV %#x: %d", mode, kind, mpp, bit, got)
					}
				}
			}
		}
	}
}

func TestP25_1Misaligned(t *testing.T) {
	x := fresh(t)
	s := open()
	paged := s
	paged.Satp = sv39 | 0x80000
	for kind := range uint8(3) {
		for _, width := range []int{1, 2, 4, 8, 0, 3, 5, 6, 7, 9, 16, -1, -2, -8, 1 << 40, -1 << 63} {
			for d := range uint64(9) {
				va := base + d
				ok := width == 1 || width == 2 || width == 4 || width == 8
				if kind == api.Fetch {
					ok = ok && d%2 == 0
				} else {
					ok = ok && d%uint64(max(width, 1)) == 0
				}
				pa, tr := x.m.Reach(s, mmu.Ask{Va: va, Kind: kind, Mode: 3, Width: width})
				if ok && (pa != va || tr != (api.Trap{})) {
					t.Errorf("Reach of kind %d, width %d at %d: %#x, %+v", kind, width, d, pa, tr)
				}
				want := trap([]uint8{0, 4, 6}[kind], va)
				if !ok && (pa != 0 || tr != want) {
					t.Errorf("Reach of kind %d, width %d at %d: %#x, %+v; want %+v", kind, width, d, pa, tr, want)
				}
				if _, tr := x.m.Reach(paged, mmu.Ask{Va: va, Kind: kind, Mode: 0, Width: width}); !ok && tr != want { // ahead of the walk
					t.Errorf("Reach of kind %d, width %d at %d, with tables: %+v; want %+v", kind, width, d, tr, want)
				}
			}
		}
	}
}

func TestP25_2Refused(t *testing.T) {
	x := fresh(t)
	s := open()
	x.p.device = 0x1122334455667788
	x.load(s, api.S, 0x10000000, 8, 0x1122334455667788, api.Trap{}) // wherever it is
	x.load(s, api.S, 0x10000000, 4, 0, trap(5, 0x10000000))
	x.fetch(s, api.S, 0x10000000, 0, trap(1, 0x10000000))
	x.store(s, api.S, 0x10000000, 8, 9, api.Trap{})
	if x.p.device != 9 {
		t.Error("the device isn't written")
	}
	x.store(s, api.S, 0x10000000, 4, 9, trap(7, 0x10000000))
	x.store(s, api.S, 0x20000000, 1, 9, trap(7, 0x20000000))
	x.p.refuses = true
	x.store(s, api.S, base, 1, 9, trap(7, base))
	x.p.refuses = false
	for _, width := range []int{1, 2, 4, 8} { // the lowest bytes alone
		x.store(s, api.S, base+64, 8, 0, api.Trap{})
		x.store(s, api.S, base+64, width, 1<<64-1, api.Trap{})
		x.load(s, api.S, base+64, 8, (1<<64-1)>>(64-8*width), api.Trap{})
	}
	x.store(s, api.S, base, 4, 0xaabbccdd, api.Trap{})
	x.fetch(s, api.S, base, 0xccdd, api.Trap{})
	x.fetch(s, api.S, base+2, 0xaabb, api.Trap{})
	x.fetch(s, api.S, base+1, 0, trap(0, base+1))
	x.fetch(s, api.U, base+pages*4096-2, 0, api.Trap{})
}

// setWord lays a word of a table as somebody else does who tells it.
func (x bench) setWord(at, v uint64) {
	x.p.Write(at, v, 8)
	x.m.Wrote(at, 8)
}

const v, r, w, xx, u, a, d = 1, 2, 4, 8, 16, 64, 128

// tables: the root in page 0, below it page 1, below that page 2; the virtual page n is the physical page 3 + n % 3.
func (x bench) tables(bits uint64) api.State {
	s := open()
	s.Satp = sv39 | 0x80000
	x.setWord(base, 0x80001<<10|v)
	x.setWord(base+0x1000, 0x80002<<10|v)
	for n := range uint64(12) {
		x.setWord(base+0x2000+8*n, (0x80003+n%3)<<10|bits)
	}
	return s
}

func TestP25_3KeptIsAsIfWalkedAnew(t *testing.T) {
	for _, bits := range []uint64{v | r | w | xx | a | d, v | r | w | xx} {
		x := fresh(t)
		s := x.tables(bits)
		x.p.Write(base+0x3008, 77, 8)
		x.p.Write(base+0x4008, 88, 8)
		x.load(s, api.S, 8, 8, 77, api.Trap{})
		x.load(s, api.S, 8, 8, 77, api.Trap{})
		x.fetch(s, api.S, 8, 77, api.Trap{})
		x.load(s, api.U, 8, 8, 0, trap(13, 8)) // by another mode
		x.load(s, api.M, base+0x3008, 8, 77, api.Trap{})
		// The leaf becomes another page: by a Store through the tables themselves, and by somebody else.
		x.setWord(base+0x2000+8*11, 0x80002<<10|v|r|w|a|d)
		x.store(s, api.S, 11*4096, 8, 0x80004<<10|v|r|w|xx|a|d, api.Trap{})
		x.load(s, api.S, 8, 8, 88, api.Trap{})
		x.setWord(base+0x2000, 0x80003<<10|bits)
		x.load(s, api.S, 8, 8, 77, api.Trap{})
		x.setWord(base+0x1000, 0)
		x.load(s, api.S, 8, 8, 0, trap(13, 8))
		x.setWord(base+0x1000, 0x80002<<10|v)
		x.load(s, api.S, 8, 8, 77, api.Trap{})
		x.setWord(base, 0)
		x.load(s, api.S, 8, 8, 0, trap(13, 8))
		x.store(s, api.M, base, 8, 0x80001<<10|v, api.Trap{})
		x.load(s, api.S, 8, 8, 77, api.Trap{})
		// One byte of an upper entry, by a narrow store of M.
		x.store(s, api.M, base, 1, 0, api.Trap{})
		x.load(s, api.S, 8, 8, 0, trap(13, 8))
		if n := x.m.Kept(); n < 0 || n > 8 {
			t.Errorf("Kept %d", n)
		}
	}
}

func TestP25_3ManyBytesWritten(t *testing.T) {
	x := fresh(t)
	s := x.tables(v | r | w | xx | a | d)
	x.p.Write(base+0x3008, 77, 8)
	x.load(s, api.S, 8, 8, 77, api.Trap{})
	x.p.b = [pages * 4096]byte{} // all of it is written at once, and told so
	x.m.Wrote(base, pages*4096)
	x.load(s, api.S, 8, 8, 0, trap(13, 8))
	x.tables(v | r | w | xx | a | d)
	x.load(s, api.S, 8, 8, 0, api.Trap{})
	for i := range x.p.b[0x1000:0x3000] {
		x.p.b[0x1000+i] = 0
	}
	x.m.Wrote(base+0x100, 0x2f00)
	x.load(s, api.S, 8, 8, 0, trap(13, 8))
	// A word far behind the first 4096 bytes that are told: the leaf of the page 2, at 0x2010.
	x.tables(v | r | w | xx | a | d)
	x.load(s, api.S, 0x2008, 8, 0, api.Trap{})
	for i := 0x1008; i < 0x2018; i++ {
		x.p.b[i] = 0
	}
	x.m.Wrote(base+0x1008, 0x1010)
	x.load(s, api.S, 0x2008, 8, 0, trap(13, 0x2008))
}

func TestP25_3OtherStates(t *testing.T) {
	x := fresh(t)
	s := x.tables(v | r | w | xx | a | d)
	x.load(s, api.S, 8, 8, 0, api.Trap{})
	shut := s
	shut.Pmpcfg, shut.Pmpaddr = 0x1f18, [8]uint64{base>>2 | 0x1ff, 1<<54 - 1} // the root's page allows S nothing
	x.load(shut, api.S, 8, 8, 0, trap(5, 8))
	x.fetch(shut, api.S, 8, 0, trap(1, 8))
	x.load(s, api.S, 8, 8, 0, api.Trap{})
	shut.Pmpaddr[0] = (base+0x2000)>>2 | 0x1ff // the leaves' page
	x.store(shut, api.S, 8, 8, 1, trap(7, 8))
	shut.Pmpaddr[0] = (base+0x3000)>>2 | 0x1ff // the page itself
	x.load(shut, api.S, 8, 8, 0, trap(5, 8))
	x.load(shut, api.S, 0x1008, 8, 0, api.Trap{})
	other := s
	other.Satp = sv39 | 0x80001 // another root, by which the leaf is one of a great page, and askew
	x.load(other, api.S, 8, 8, 0, trap(13, 8))
	other.Satp = s.Satp | 1<<44 // another number of the same space
	x.load(other, api.S, 8, 8, 0, api.Trap{})
	other.Satp = 0x80000
	x.load(other, api.S, base+8, 8, 0x0, api.Trap{})
}

func TestP25_3SumMxrAndDirty(t *testing.T) {
	x := fresh(t)
	s := x.tables(v | xx | u | a)
	x.fetch(s, api.U, 8, 0, api.Trap{})
	x.load(s, api.U, 8, 8, 0, trap(13, 8))
	x.load(s, api.S, 8, 8, 0, trap(13, 8))
	s.Mstatus = mxr
	x.load(s, api.U, 8, 8, 0, api.Trap{})
	x.load(s, api.S, 8, 8, 0, trap(13, 8))
	s.Mstatus = mxr | sum
	x.load(s, api.S, 8, 8, 0, api.Trap{})
	x.fetch(s, api.S, 8, 0, trap(12, 8))
	s.Mstatus = mprv | mxr // M, in effect U
	x.load(s, api.M, 8, 8, 0, api.Trap{})
	x.store(s, api.M, 8, 8, 0, trap(15, 8))

	x = fresh(t)
	s = x.tables(v | r | w)
	pte := func() uint64 { v, _ := x.p.Read(base+0x2000, 8); return v & 0xff }
	x.load(s, api.S, 8, 8, 0, api.Trap{})
	if pte() != v|r|w|a {
		t.Errorf("a Load: %#x", pte())
	}
	x.store(s, api.S, 8, 8, 5, api.Trap{})
	if pte() != v|r|w|a|d {
		t.Errorf("a Store behind it: %#x", pte())
	}
	x.load(s, api.S, 8, 8, 5, api.Trap{})
	x.setWord(base+0x2000, 0x80003<<10|v|r|w|a)
	x.store(s, api.S, 16, 8, 6, api.Trap{})
	if pte() != v|r|w|a|d {
		t.Errorf("a Store behind a write of the leaf: %#x", pte())
	}
}

func TestP25_3DropFlushKept(t *testing.T) {
	x := fresh(t)
	s := x.tables(v | r | w | xx | a | d)
	for n := range uint64(11) {
		x.load(s, api.S, n*4096, 8, 0, api.Trap{})
		if k := x.m.Kept(); k < 0 || k > 8 {
			t.Errorf("Kept %d", k)
		}
	}
	before := x.m.Kept()
	x.m.Drop(10*4096 + 5)
	if k := x.m.Kept(); k > before {
		t.Errorf("Kept %d behind Drop, %d ahead", k, before)
	}
	x.m.Flush()
	if k := x.m.Kept(); k != 0 {
		t.Errorf("Kept %d behind Flush", k)
	}
	x.load(s, api.S, 8, 8, 0, api.Trap{})
	x.m.Drop(0xfff)
	if k := x.m.Kept(); k != 0 {
		t.Errorf("Kept %d behind Drop of the only page", k)
	}
	x.load(s, api.S, 8, 8, 0, api.Trap{})
}

// plain is an mmu that keeps nothing: the chapter's steps, by walk and pmp.
type plain struct {
	p *board
	s api.State
}

func (q plain) Read(at uint64) (uint64, bool) {
	if !pmp.Check(q.s.Pmpcfg, q.s.Pmpaddr, pmp.Access{Mode: 1, Kind: api.Load, At: at, Width: 8}) || !q.p.RAM(at, 8) {
		return 0, false
	}
	return q.p.Read(at, 8)
}

func (q plain) Write(at, v uint64) bool {
	return pmp.Check(q.s.Pmpcfg, q.s.Pmpaddr, pmp.Access{Mode: 1, Kind: api.Store, At: at, Width: 8}) && q.p.RAM(at, 8) && q.p.Write(at, v, 8)
}

func (q plain) reach(x mmu.Ask) (uint64, api.Trap) {
	step := uint64(x.Width)
	if x.Kind == api.Fetch {
		step = 2
	}
	if x.Va%step != 0 {
		return 0, trap([]uint8{0, 4, 6}[x.Kind], x.Va)
	}
	mode := x.Mode
	if mode == 3 && x.Kind != api.Fetch && q.s.Mstatus&mprv != 0 {
		mode = uint8(q.s.Mstatus >> 11 & 3)
	}
	res := walk.Walk(q, walk.Ask{Va: x.Va, Satp: q.s.Satp, Kind: x.Kind, Mode: mode, Sum: q.s.Mstatus&sum != 0, Mxr: q.s.Mstatus&mxr != 0})
	switch {
	case res.Fault == walk.PageFault:
		return 0, trap([]uint8{12, 13, 15}[x.Kind], x.Va)
	case res.Fault == walk.AccessFault || !pmp.Check(q.s.Pmpcfg, q.s.Pmpaddr, pmp.Access{Mode: mode, Kind: x.Kind, At: res.Pa, Width: x.Width}):
		return 0, trap([]uint8{1, 5, 7}[x.Kind], x.Va)
	}
	return res.Pa, api.Trap{}
}

func (q plain) do(x mmu.Ask, v uint64) (uint64, api.Trap) {
	pa, tr := q.reach(x)
	if tr.Is {
		return 0, tr
	}
	ok := true
	if x.Kind == api.Store {
		ok, v = q.p.Write(pa, v, x.Width), 0
	} else if x.Kind == api.Fetch && !q.p.RAM(pa, 2) {
		ok = false
	} else {
		v, ok = q.p.Read(pa, x.Width)
	}
	if !ok {
		return 0, trap([]uint8{1, 5, 7}[x.Kind], x.Va)
	}
	return v, api.Trap{}
}

// someState is one of few, so that the same come again, with most of the memory open.
func someState(next func(uint64) uint64) api.State {
	s := open()
	s.Satp = sv39 | next(2)<<44 | 0x80000 + next(2)
	s.Mstatus = next(2)*sum | next(2)*mxr
	switch next(8) {
	case 0:
		s.Mstatus |= mprv | next(2)<<11
	case 1:
		s.Satp = 0
	case 2: // a page that is shut, or can only be read
		s.Pmpcfg, s.Pmpaddr = 0x1f18|next(2), [8]uint64{(base+4096*next(pages))>>2 | 0x1ff, 1<<54 - 1}
	case 3: // half a page
		s.Pmpcfg, s.Pmpaddr = 0x1f18|next(8), [8]uint64{(base+4096*next(pages))>>2 | 0xff, 1<<54 - 1}
	case 4:
		s.Pmpcfg = 0
	}
	return s
}

// TestP25_3To5Model: random accesses, states, tables and writings; told the same as by one that walks anew each time.
func TestP25_3To5Model(t *testing.T) {
	seed := uint64(1)
	next := func(end uint64) uint64 {
		seed = seed*6364136223846793005 + 1442695040888963407
		return (seed >> 20) % end
	}
	seen := map[uint8]int{}
	for range 60 {
		x, q := fresh(t), &board{}
		states := []api.State{someState(next), someState(next), someState(next), someState(next)}
		somePte := func() uint64 {
			pte := (0x80000 + next(pages)) << 10
			switch next(6) {
			case 0, 1, 2:
				return pte | v
			case 3:
				return pte | v | r | w | xx | next(2)*a | next(2)*d | next(2)*u
			case 4:
				return pte&^(0x1ff<<10) | next(256) | v
			}
			return pte | next(256)
		}
		for range 200 {
			at := base + 4096*next(3) + 8*next(4)
			pte := somePte()
			x.setWord(at, pte)
			q.Write(at, pte, 8)
		}
		for step := range 1500 {
			s := states[next(4)]
			va := next(4)<<30 | next(4)<<21 | next(4)<<12 | next(6)*8
			kind, mode, width := uint8(next(3)), uint8(next(2)), 1<<next(4)
			switch next(12) {
			case 0:
				va++
			case 1:
				mode, va = 3, base+next(pages*4096)&^7
			case 2:
				mode = 3
			}
			if kind == api.Fetch {
				width = 2
			}
			val := somePte()
			if next(3) > 0 {
				val = next(1 << 40)
			}
			ask := mmu.Ask{Va: va, Kind: kind, Mode: mode, Width: width}
			want, wantT := plain{q, s}.do(ask, val)
			var got uint64
			var tr api.Trap
			switch kind {
			case api.Fetch:
				var v16 uint16
				v16, tr = x.m.Fetch(s, mode, va)
				got = uint64(v16)
			case api.Load:
				got, tr = x.m.Load(s, mode, va, width)
			default:
				tr = x.m.Store(s, ask, val)
			}
			if got != want || tr != wantT {
				t.Fatalf("step %d: %+v with %+v: %#x, %+v; want %#x, %+v", step, ask, s, got, tr, want, wantT)
			}
			if x.p.b != q.b {
				t.Fatalf("step %d: %+v with %+v: another memory", step, ask, s)
			}
			seen[tr.Cause]++
			if ra, rt := (plain{q, s}).reach(ask); true {
				if ga, gt := x.m.Reach(s, ask); ga != ra || gt != rt || x.p.b != q.b {
					t.Fatalf("step %d: Reach of %+v: %#x, %+v; want %#x, %+v", step, ask, ga, gt, ra, rt)
				}
			}
			switch next(20) {
			case 0:
				at, pte := base+4096*next(3)+8*next(4), somePte()
				x.setWord(at, pte)
				q.Write(at, pte, 8)
			case 1:
				x.m.Drop(va)
			case 2:
				x.m.Flush()
			}
			if k := x.m.Kept(); k < 0 || k > 8 {
				t.Fatalf("Kept %d", k)
			}
		}
	}
	for _, cause := range []uint8{0, 1, 4, 5, 6, 7, 12, 13, 15} {
		if seen[cause] < 20 {
			t.Errorf("the test reaches too little: %v", maps.Collect(maps.All(seen)))
			break
		}
	}
}

// TestP25_5: a refused access reads and writes nothing of the map but page tables.
func TestP25_5Refused(t *testing.T) {
	x := fresh(t)
	s := x.tables(v | r | a)
	x.p.log = nil
	x.store(s, api.S, 8, 8, 5, trap(15, 8))
	x.fetch(s, api.S, 8, 0, trap(12, 8))
	x.load(s, api.U, 8, 8, 0, trap(13, 8))
	for _, line := range x.p.log {
		if line != "r80000000" && line != "r80001000" && line != "r80002000" {
			t.Errorf("a refused access: %s", line)
		}
	}
	x.p.log = nil
	x.load(api.State{}, api.S, base+8, 8, 0, trap(5, base+8))
	x.store(api.State{}, api.U, 0x10000000, 8, 1, trap(7, 0x10000000))
	x.load(s, api.M, base+9, 8, 0, trap(4, base+9))
	if len(x.p.log) != 0 {
		t.Errorf("a refused access: %s", x.p.log)
	}
}

// TestP25_1ProtectionOfWalks: a walk's words are RAM, and S may load and store them.
func TestP25_1ProtectionOfWalks(t *testing.T) {
	x := fresh(t)
	s := x.tables(v | r | w)
	s.Satp = sv39 | 0x10000 // the device is no table
	x.load(s, api.S, 8, 8, 0, trap(5, 8))
	s = x.tables(v | r | w)
	s.Pmpcfg, s.Pmpaddr = 0x1f19, [8]uint64{(base+0x2000)>>2 | 0x1ff, 1<<54 - 1} // the leaves can only be read
	x.load(s, api.S, 8, 8, 0, trap(5, 8))
	x.store(s, api.S, 8, 8, 0, trap(7, 8))
	if pte, _ := x.p.Read(base+0x2000, 8); pte&(a|d) != 0 {
		t.Error("a walk wrote what S may not store")
	}
	x.setWord(base+0x2000, 0x80003<<10|v|r|w|a)
	x.load(s, api.S, 8, 8, 0, api.Trap{})
	x.store(s, api.S, 8, 8, 0, trap(7, 8))
	x.setWord(base+0x2000, 0x80003<<10|v|r|w|a|d)
	x.store(s, api.S, 8, 8, 0, api.Trap{})
}
