package mmu

import (
	"almonry/api"
	"almonry/pmp"
	"almonry/tlb"
	"almonry/walk"
)

// tables is the map as walks see it: words of RAM that the protection leaves to S.
type tables struct {
	m *Mmu
	s api.State
}

// may tells whether a word may be accessed.
func (t tables) may(at uint64, kind uint8) bool {
	return pmp.Check(t.s.Pmpcfg, t.s.Pmpaddr, pmp.Access{Mode: api.S, Kind: kind, At: at, Width: word}) && t.m.isRAM(at, word)
}

// Read tells a word.
func (t tables) Read(at uint64) (uint64, bool) {
	if !t.may(at, api.Load) {
		return 0, false
	}
	return t.m.read(at, word)
}

// Write lays a word. Other walks may have read it.
func (t tables) Write(at, v uint64) bool {
	if !t.may(at, api.Store) {
		return false
	}
	ok := t.m.write(at, v, word)
	t.m.Wrote(at, word)
	return ok
}

// translate tells the physical address of an ask, or how its walk fails.
func (m *Mmu) translate(s api.State, x walk.Ask) (pa uint64, why uint8) {
	if walk.Bare(x) {
		return x.Va, walk.Fine
	}
	t := tables{m, s}
	if e, ok := m.kept.Find(x.Satp, x.Va); ok && !marks(e, x) {
		return t.again(e, x)
	}
	r := walk.Walk(t, x)
	if r.Fault == walk.Fine {
		m.kept.Add(tlb.Entry{Satp: x.Satp, Vpn: x.Va >> 12, Pte: r.Pte, Level: r.Level, At: r.At, Reads: r.Reads})
	}
	return r.Pa, r.Fault
}

// marks tells whether a walk that found this would write its leaf: it can't be told without the walk then.
func marks(e tlb.Entry, x walk.Ask) bool {
	return x.Kind == api.Store && e.Pte&dirty == 0
}

// again tells what a walk would that found this before. The words are as they were; but who asks, and what the protection leaves to walks, may be another.
func (t tables) again(e tlb.Entry, x walk.Ask) (pa uint64, why uint8) {
	for _, at := range e.At[:e.Reads] {
		if !t.may(at, api.Load) {
			return 0, walk.AccessFault
		}
	}
	if !walk.Allowed(e.Pte, x) {
		return 0, walk.PageFault
	}
	return e.Pa(x.Va), walk.Fine
}

// isRAM, read and write ask the map. One that panics refuses.
func (m *Mmu) isRAM(pa uint64, n int) (ok bool) {
	defer func() {
		if recover() != nil {
			ok = false
		}
	}()
	return m.p.RAM(pa, n)
}

func (m *Mmu) read(pa uint64, width int) (v uint64, ok bool) {
	defer func() {
		if recover() != nil {
			v, ok = 0, false
		}
	}()
	return m.p.Read(pa, width)
}

func (m *Mmu) write(pa, v uint64, width int) (ok bool) {
	defer func() {
		if recover() != nil {
			ok = false
		}
	}()
	return m.p.Write(pa, v, width)
}
