package plic

// register is what is done at one.
type register struct {
	read  func() uint64
	write func(v uint32)
}

// place is a source's, or a context's, registers.
type place struct {
	p *PLIC
	n int
}

func (p *PLIC) isRegister(off uint64, bytes int) bool {
	return p.isMade() && bytes == width && off%width == 0 && off < end
}

// find tells what is done at an offset.
func (p *PLIC) find(off uint64) register {
	if n := off / width; isSource(n) {
		x := place{p, int(n)}
		return register{x.priority, x.setPriority}
	}
	x := place{p: p}
	switch off {
	case enabledAt + enabledStep:
		x.n = 1
		fallthrough
	case enabledAt:
		return register{x.enabled, x.setEnabled}
	case contextAt + contextStep:
		x.n = 1
		fallthrough
	case contextAt:
		return register{x.threshold, x.setThreshold}
	case contextAt + contextStep + claimAt:
		x.n = 1
		fallthrough
	case contextAt + claimAt:
		return register{x.claim, x.complete}
	case pendingAt:
		return register{x.pending, x.keep}
	}
	return register{x.nought, x.keep}
}

func (x place) priority() uint64 { return uint64(x.p.sources[x.n].priority) }

func (x place) setPriority(v uint32) { x.p.sources[x.n].priority = uint8(v & threeBits) }

func (x place) enabled() uint64 { return uint64(x.p.contexts[x.n].enabled) }

func (x place) setEnabled(v uint32) { x.p.contexts[x.n].enabled = uint8(v & allBits) }

func (x place) threshold() uint64 { return uint64(x.p.contexts[x.n].threshold) }

func (x place) setThreshold(v uint32) { x.p.contexts[x.n].threshold = uint8(v & threeBits) }

func (x place) nought() uint64 { return 0 }

func (x place) keep(uint32) {}

func (x place) pending() uint64 {
	var bits uint64
	for n, s := range x.p.sources {
		if s.pending {
			bits |= 1 << n
		}
	}
	return bits
}

// claim serves the best source. Its gate is not open then: a high level makes it pending behind its complete alone.
func (x place) claim() uint64 {
	n := x.p.best(x.p.contexts[x.n])
	if n > 0 {
		s := &x.p.sources[n]
		s.pending, s.serving = false, true
	}
	return uint64(n)
}

func (x place) complete(v uint32) {
	if !isSource(uint64(v)) || x.p.contexts[x.n].enabled>>v&1 == 0 {
		return
	}
	s := &x.p.sources[v]
	if s.serving {
		s.serving = false
		s.settle()
	}
}
