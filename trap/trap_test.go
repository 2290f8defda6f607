package trap_test

import (
	"testing"

	"almonry/api"
	"almonry/trap"
)

const (
	u, s, m = api.U, api.S, api.M

	sie  = 1 << 1
	mie  = 1 << 3
	spie = 1 << 5
	mpie = 1 << 7
	spp  = 1 << 8
	mpp1 = 1 << 11
	mpp3 = 3 << 11
	mprv = 1 << 17
	intr = 1 << 63
)

type random uint64

func (r *random) next() uint64 {
	*r ^= *r << 13
	*r ^= *r >> 7
	*r ^= *r << 17
	return uint64(*r)
}

func someState(r *random) api.State {
	return api.State{
		Id: r.next(), Mstatus: r.next(), Mie: r.next(), Mip: r.next() & r.next(), Hw: r.next() & r.next() & r.next(), Medeleg: r.next(), Mideleg: r.next(),
		Mtvec: r.next(), Mepc: r.next(), Mcause: r.next(), Mtval: r.next(), Mscratch: r.next(), Stvec: r.next(), Sepc: r.next(), Scause: r.next(), Stval: r.next(),
		Satp: r.next(), Cycle: r.next(), Instret: r.next(), Pmpcfg: r.next(), Pmpaddr: [8]uint64{r.next(), r.next()},
	}
}

func mode3(mode uint8) uint8 {
	if mode > 1 {
		return 3
	}
	return mode
}

func pending(st api.State, mode uint8) (uint8, bool) {
	mode = mode3(mode)
	for _, ofS := range []bool{false, true} {
		for _, c := range []uint8{11, 3, 7, 9, 1, 5} {
			is := st.Mie>>c&1 == 1 && (st.Mip>>c&1 == 1 || st.Hw>>c&1 == 1) && (st.Mideleg>>c&1 == 1) == ofS
			may := mode < 3 || st.Mstatus&mie != 0
			if ofS {
				may = mode < 1 || mode == 1 && st.Mstatus&sie != 0
			}
			if is && may {
				return c, true
			}
		}
	}
	return 0, false
}

func TestP10_1Examples(t *testing.T) {
	base := api.State{Mie: 0xaaa, Mip: 0x22, Hw: 0x80}
	with := func(change func(*api.State)) api.State {
		st := base
		change(&st)
		return st
	}
	deleg := func(st *api.State) { st.Mideleg = 0x222 }
	for _, c := range []struct {
		name  string
		st    api.State
		mode  uint8
		cause uint8
		ok    bool
	}{
		{"in U", base, u, 7, true},
		{"in M", base, m, 0, false},
		{"in M with MIE", with(func(st *api.State) { st.Mstatus = mie }), m, 7, true},
		{"in U with Mideleg", with(deleg), u, 7, true},
		{"in U with Mideleg, no Hw", with(func(st *api.State) { deleg(st); st.Hw = 0 }), u, 1, true},
		{"in S with Mideleg, no Hw", with(func(st *api.State) { deleg(st); st.Hw = 0 }), s, 0, false},
		{"in S with Mideleg, no Hw, SIE", with(func(st *api.State) { deleg(st); st.Hw = 0; st.Mstatus = sie }), s, 1, true},
		{"in M with SIE alone", with(func(st *api.State) { deleg(st); st.Mstatus = sie }), m, 0, false},
		{"in M, S's alone, with MIE", with(func(st *api.State) { deleg(st); st.Hw = 0; st.Mstatus = mie | sie }), m, 0, false},
		{"M's 5 and 1: 1 goes ahead", with(func(st *api.State) { st.Hw = 0 }), s, 1, true},
		{"a mode of 2 counts as M", base, 2, 0, false},
		{"not enabled", with(func(st *api.State) { st.Mie = 0 }), u, 0, false},
		{"no interrupt's bit", api.State{Mie: 1<<64 - 1 - 0xaaa, Mip: 1<<64 - 1, Hw: 1<<64 - 1}, u, 0, false},
	} {
		if cause, ok := trap.Pending(c.st, c.mode); cause != c.cause || ok != c.ok {
			t.Errorf("%s: %d, %v; want %d, %v", c.name, cause, ok, c.cause, c.ok)
		}
	}
	if !trap.Awake(base) || trap.Awake(with(func(st *api.State) { st.Mie = 0 })) {
		t.Error("Awake")
	}
}

func TestP10_1Order(t *testing.T) {
	order := []uint8{11, 3, 7, 9, 1, 5}
	for i, a := range order {
		for j, b := range order {
			st := api.State{Mie: 1<<a | 1<<b, Mip: 1 << a, Hw: 1 << b}
			if c, ok := trap.Pending(st, u); c != order[min(i, j)] || !ok {
				t.Errorf("%d and %d of M: %d, %v", a, b, c, ok)
			}
			st.Mideleg = 1<<64 - 1
			if c, ok := trap.Pending(st, u); c != order[min(i, j)] || !ok {
				t.Errorf("%d and %d of S: %d, %v", a, b, c, ok)
			}
			st.Mideleg = 1 << a
			if c, ok := trap.Pending(st, u); c != b || !ok {
				t.Errorf("%d of S and %d of M: %d, %v", a, b, c, ok)
			}
		}
	}
}

func TestP10_1Model(t *testing.T) {
	r := random(1)
	for range 20000 {
		st := someState(&r)
		switch r.next() % 4 {
		case 0:
			st.Mip, st.Hw = st.Mip&0x222&r.next(), st.Hw&0xa88&r.next()
		case 1:
			st.Mie &= r.next() & r.next()
			st.Mideleg = 0x222
		case 2:
			st.Mie, st.Mip = 0x222&r.next(), st.Mip&r.next()
			st.Mideleg = 0x222 & r.next()
		}
		awake := st.Mie&(st.Mip|st.Hw)&0xaaa != 0
		if trap.Awake(st) != awake {
			t.Fatalf("Awake of %+v", st)
		}
		for _, mode := range []uint8{0, 1, 2, 3, 4, 255} {
			wantC, wantOk := pending(st, mode)
			if c, ok := trap.Pending(st, mode); c != wantC || ok != wantOk {
				t.Fatalf("Pending in %d of %+v: %d, %v; want %d, %v", mode, st, c, ok, wantC, wantOk)
			}
		}
	}
}

func bit(st, b uint64) uint64 {
	if st&b != 0 {
		return 1
	}
	return 0
}

func enter(st api.State, mode uint8, pc uint64, x trap.Taken) (api.State, uint8, uint64) {
	mode = mode3(mode)
	del, cause := st.Medeleg, uint64(x.Cause)
	if x.Interrupt {
		del, cause, x.Tval = st.Mideleg, cause+intr, 0
	}
	way := func(v uint64) uint64 {
		if x.Interrupt && v%2 == 1 {
			return v/4*4 + 4*uint64(x.Cause)
		}
		return v / 4 * 4
	}
	if mode != 3 && x.Cause < 64 && del>>x.Cause&1 == 1 {
		st.Sepc, st.Scause, st.Stval = pc/2*2, cause, x.Tval
		st.Mstatus = st.Mstatus&^(sie|spie|spp) | bit(st.Mstatus, sie)*spie | uint64(mode)*spp
		return st, 1, way(st.Stvec)
	}
	st.Mepc, st.Mcause, st.Mtval = pc/2*2, cause, x.Tval
	st.Mstatus = st.Mstatus&^(mie|mpie|mpp3) | bit(st.Mstatus, mie)*mpie | uint64(mode)*mpp1
	return st, 3, way(st.Mtvec)
}

func TestP10_2Enter(t *testing.T) {
	r := random(2)
	for range 5000 {
		st := someState(&r)
		pc := r.next()
		for _, mode := range []uint8{0, 1, 2, 3, 7, 255} {
			for _, cause := range []uint8{0, 1, 2, 3, 5, 8, 9, 11, 13, 15, 63, 64, 128, 200, 255} {
				for _, is := range []bool{false, true} {
					x := trap.Taken{Cause: cause, Interrupt: is, Tval: r.next()}
					st1, m1, pc1 := trap.Enter(st, mode, pc, x)
					st2, m2, pc2 := enter(st, mode, pc, x)
					if st1 != st2 || m1 != m2 || pc1 != pc2 {
						t.Fatalf("Enter from %d of %+v: %+v, %d, %#x; want %+v, %d, %#x", mode, x, st1, m1, pc1, st2, m2, pc2)
					}
				}
			}
		}
	}
}

func TestP10_2Examples(t *testing.T) {
	base := api.State{Mie: 0xaaa, Mip: 0x22, Hw: 0x80}
	st := base
	st.Mtvec = 0x8000
	got, mode, pc := trap.Enter(st, u, 0x1001, trap.Taken{Cause: 8})
	if got.Mepc != 0x1000 || got.Mcause != 8 || mode != m || pc != 0x8000 || got.Mstatus>>11&3 != 0 {
		t.Errorf("from U: %+v, %d, %#x", got, mode, pc)
	}
	st = base
	st.Mstatus, st.Mtvec = mie, 0x8001
	got, mode, pc = trap.Enter(st, s, 0x10, trap.Taken{Cause: 7, Interrupt: true, Tval: 9})
	if got.Mcause != intr+7 || pc != 0x801c || mode != m || got.Mstatus != mpp1|mpie || got.Mtval != 0 {
		t.Errorf("from S, an interrupt: %+v, %d, %#x", got, mode, pc)
	}
	st = base
	st.Medeleg, st.Stvec = 1<<13, 0x9001
	got, mode, pc = trap.Enter(st, s, 0x10, trap.Taken{Cause: 13, Tval: 5})
	if got.Scause != 13 || got.Stval != 5 || mode != s || pc != 0x9000 || got.Mstatus != spp {
		t.Errorf("from S, delegated: %+v, %d, %#x", got, mode, pc)
	}
}

func TestP10_3MretAndSret(t *testing.T) {
	r := random(3)
	for range 5000 {
		st := someState(&r)
		want := st
		mode := uint8(st.Mstatus >> 11 & 3)
		if mode == 2 {
			mode = 3
		}
		want.Mstatus = st.Mstatus&^(mie|mpp3) | bit(st.Mstatus, mpie)*mie | mpie
		if mode != 3 {
			want.Mstatus &^= mprv
		}
		if got, m1, pc := trap.Mret(st); got != want || m1 != mode || pc != st.Mepc {
			t.Fatalf("Mret of %+v: %+v, %d, %#x", st, got, m1, pc)
		}
		want = st
		want.Mstatus = st.Mstatus&^(sie|spp|mprv) | bit(st.Mstatus, spie)*sie | spie
		for _, from := range []uint8{0, 1, 2, 3, 255} {
			if got, m1, pc := trap.Sret(st, from); got != want || uint64(m1) != bit(st.Mstatus, spp) || pc != st.Sepc {
				t.Fatalf("Sret from %d of %+v: %+v, %d, %#x", from, st, got, m1, pc)
			}
		}
	}
}

func TestP10_3Examples(t *testing.T) {
	got, mode, pc := trap.Mret(api.State{Mstatus: mpp1 | mpie | mprv, Mepc: 0x44})
	if mode != s || pc != 0x44 || got.Mstatus != mie|mpie {
		t.Errorf("Mret: %#x, %d, %#x", got.Mstatus, mode, pc)
	}
	got, mode, _ = trap.Mret(api.State{Mstatus: mpp3 | mprv})
	if mode != m || got.Mstatus != mpie|mprv {
		t.Errorf("Mret to M: %#x, %d", got.Mstatus, mode)
	}
	got, mode, _ = trap.Sret(api.State{Mstatus: spp | mprv}, s)
	if mode != s || got.Mstatus != spie {
		t.Errorf("Sret: %#x, %d", got.Mstatus, mode)
	}
}

func TestP10_4LeadsBack(t *testing.T) {
	r := random(4)
	for range 5000 {
		st := someState(&r)
		pc := r.next()
		for _, mode := range []uint8{u, s, m} {
			in, to, _ := trap.Enter(st, mode, pc, trap.Taken{Cause: uint8(r.next() % 16), Interrupt: r.next()&1 == 1})
			back, m1, pc1 := trap.Mret(in)
			allowed := uint64(mie)
			if to == s {
				back, m1, pc1 = trap.Sret(in, to)
				allowed = sie
			}
			if m1 != mode || pc1 != pc&^1 || back.Mstatus&allowed != st.Mstatus&allowed {
				t.Fatalf("from %d at %#x by %d: back in %d at %#x", mode, pc, to, m1, pc1)
			}
		}
	}
}

func TestP10_5NoLowerMode(t *testing.T) {
	r := random(5)
	for range 5000 {
		st := someState(&r)
		for _, mode := range []uint8{u, s, m} {
			if _, to, _ := trap.Enter(st, mode, 0, trap.Taken{Cause: uint8(r.next() % 16), Interrupt: r.next()&1 == 1}); to < mode {
				t.Fatalf("from %d to %d", mode, to)
			}
			c, ok := trap.Pending(st, mode)
			if !ok {
				continue
			}
			if !trap.Awake(st) || (st.Mie&(st.Mip|st.Hw))>>c&1 == 0 {
				t.Fatalf("%d isn't pending", c)
			}
			in, to, _ := trap.Enter(st, mode, 0, trap.Taken{Cause: c, Interrupt: true})
			next, ok := trap.Pending(in, to)
			if ofM := in.Mideleg>>next&1 == 0; ok && (to == m || !ofM) {
				t.Fatalf("behind %d, in %d, %d may be taken at once", c, to, next)
			}
		}
	}
}
