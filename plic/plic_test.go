package plic_test

import (
	"fmt"
	"strings"
	"testing"

	"almonry/api"
	"almonry/plic"
)

type bench struct {
	t *testing.T
	p *plic.PLIC
}

func (b bench) read(off, want uint64) {
	b.t.Helper()
	if v, ok := b.p.Read(off, 4); v != want || !ok {
		b.t.Errorf("Read(%#x) = %d, %v; want %d", off, v, ok, want)
	}
}

func (b bench) write(off, v uint64) {
	b.t.Helper()
	if !b.p.Write(off, v, 4) {
		b.t.Errorf("Write(%#x, %d) is refused", off, v)
	}
}

func (b bench) raise(n int, high bool, want api.Errno) {
	b.t.Helper()
	if e := b.p.Raise(n, high); e != want {
		b.t.Errorf("Raise(%d, %v) = %v, want %v", n, high, e, want)
	}
}

func (b bench) calls(n int, want bool) {
	b.t.Helper()
	if got := b.p.Calls(n); got != want {
		b.t.Errorf("Calls(%d) = %v", n, got)
	}
}

func (b bench) text(want string) {
	b.t.Helper()
	if got := b.p.Text(); got != want {
		b.t.Errorf("Text %q, want %q", got, want)
	}
}

func TestP14_1And2Examples(t *testing.T) {
	b := bench{t, plic.New()}
	b.text("0 0 0 0 0 0 0 00/0 00/0")
	b.raise(3, true, api.OK)
	b.read(0x1000, 8)
	b.calls(0, false)
	b.write(12, 5)
	b.write(0x2000, 8)
	b.calls(0, true)
	b.calls(1, false)
	b.write(0x200000, 5)
	b.calls(0, false)
	b.read(0x200004, 3)
	b.read(0x200004, 0)
	b.read(0x1000, 0)
	b.text("0 0 5hs 0 0 0 0 08/5 00/0")
	b.raise(3, false, api.OK)
	b.raise(3, true, api.OK)
	b.read(0x1000, 0)
	b.write(0x200004, 3)
	b.read(0x1000, 8)
	b.raise(8, true, api.ErrArg)
	b.read(0x3000, 0)
	b.text("0 0 5hp 0 0 0 0 08/5 00/0")
}

func TestP14_1Nil(t *testing.T) {
	for name, p := range map[string]*plic.PLIC{"nil": nil, "not made": {}} {
		if p.Raise(1, true) != api.ErrNil || p.Raise(0, true) != api.ErrNil || p.Calls(0) || p.Write(4, 1, 4) || p.Copy() != nil || p.Text() != "" {
			t.Errorf("%s: something is there", name)
		}
		if v, ok := p.Read(0x1000, 4); v != 0 || ok {
			t.Errorf("%s: Read", name)
		}
		if !plic.Same(p, nil) || !plic.Same(nil, p) || !plic.Same(p, &plic.PLIC{}) || plic.Same(p, plic.New()) || plic.Same(plic.New(), p) {
			t.Errorf("%s: Same", name)
		}
	}
}

func TestP14_1Raise(t *testing.T) {
	for _, n := range []int{-1 << 63, -1, 0, 8, 9, 256 + 1, 1<<32 + 1, 1<<63 - 1} {
		b := bench{t, plic.New()}
		b.raise(n, true, api.ErrArg)
		b.raise(n, false, api.ErrArg)
		if !plic.Same(b.p, plic.New()) {
			t.Errorf("Raise(%d) changed something", n)
		}
	}
	for n := 1; n < 8; n++ {
		b := bench{t, plic.New()}
		b.raise(n, true, api.OK)
		b.read(0x1000, 1<<n)
		b.raise(n, false, api.OK) // the level falls; what is pending stays so
		b.read(0x1000, 1<<n)
	}
}

func TestP14_1Calls(t *testing.T) {
	b := bench{t, plic.New()}
	b.raise(2, true, api.OK)
	b.write(8, 1)
	b.write(0x2000, 4)
	b.write(0x2080, 4)
	for _, n := range []int{-1, 2, 3, 1 << 40, -1 << 63} {
		b.calls(n, false)
	}
	b.calls(0, true)
	b.calls(1, true)
	b.write(0x201000, 1)
	b.calls(0, true)
	b.calls(1, false)
}

func TestP14_2NoRegister(t *testing.T) {
	p := plic.New()
	p.Raise(1, true)
	before := p.Text()
	for _, c := range []struct {
		off   uint64
		width int
	}{
		{2, 4}, {1, 4}, {3, 4}, {0, 8}, {0, 2}, {0, 1}, {0, 0}, {0, -4}, {4, 8}, {0x1000, 8}, {0x1000, 1}, {0x202000, 4}, {0x202004, 4}, {1 << 32, 4}, {1<<32 + 4, 4}, {1<<64 - 4, 4}, {0x200005, 4}, {0x200004, 3}, {0x200004, 1 << 40},
	} {
		if v, ok := p.Read(c.off, c.width); v != 0 || ok {
			t.Errorf("Read(%#x, %d) = %d, %v", c.off, c.width, v, ok)
		}
		if p.Write(c.off, 1, c.width) {
			t.Errorf("Write(%#x, 1, %d)", c.off, c.width)
		}
	}
	if p.Text() != before {
		t.Errorf("%q became %q", before, p.Text())
	}
}

func TestP14_2OtherOffsets(t *testing.T) {
	p := plic.New()
	p.Raise(1, true)
	before := p.Copy()
	known := map[uint64]bool{0x1000: true, 0x2000: true, 0x2080: true, 0x200000: true, 0x200004: true, 0x201000: true, 0x201004: true}
	for n := uint64(1); n < 8; n++ {
		known[4*n] = true
	}
	for off := uint64(0); off < 0x202000; off += 4 {
		if known[off] {
			continue
		}
		if v, ok := p.Read(off, 4); v != 0 || !ok {
			t.Fatalf("Read(%#x) = %d, %v", off, v, ok)
		}
		if !p.Write(off, 1<<64-1, 4) {
			t.Fatalf("Write(%#x) is refused", off)
		}
	}
	if !plic.Same(p, before) {
		t.Errorf("something was done: %q", p.Text())
	}
	if !p.Write(0x1000, 0, 4) || !plic.Same(p, before) {
		t.Error("what is pending isn't written")
	}
}

func TestP14_2LowestBits(t *testing.T) {
	b := bench{t, plic.New()}
	all := uint64(1<<64 - 1)
	for n := uint64(1); n < 8; n++ {
		b.write(4*n, all)
		b.read(4*n, 7)
		b.write(4*n, 8+n)
		b.read(4*n, n)
	}
	for _, off := range []uint64{0x2000, 0x2080} {
		b.write(off, all)
		b.read(off, 0xfe)
		b.write(off, 0xff01|0x10)
		b.read(off, 0x10)
	}
	for _, off := range []uint64{0x200000, 0x201000} {
		b.write(off, all-2)
		b.read(off, 5)
	}
	b.text("1 2 3 4 5 6 7 10/5 10/5")
}

func TestP14_2Complete(t *testing.T) {
	served := func() bench {
		b := bench{t, plic.New()}
		b.raise(3, true, api.OK)
		b.write(12, 1)
		b.write(0x2000, 8)
		b.write(0x2080, 0x10)
		b.read(0x200004, 3)
		b.text("0 0 1hs 0 0 0 0 08/0 10/0")
		return b
	}
	for _, v := range []uint64{0, 1, 2, 4, 8, 11, 32 + 3, 256 + 3, 1<<31 + 3, 1<<32 - 1} {
		b := served()
		b.write(0x200004, v)
		b.text("0 0 1hs 0 0 0 0 08/0 10/0")
	}
	b := served()
	b.write(0x201004, 3) // not enabled there
	b.text("0 0 1hs 0 0 0 0 08/0 10/0")
	b.write(0x200004, 1<<32+3) // what is above 32 bits is of no account
	b.text("0 0 1hp 0 0 0 0 08/0 10/0")
	b = served()
	b.raise(3, false, api.OK)
	b.write(0x200004, 3)
	b.text("0 0 1 0 0 0 0 08/0 10/0")
	b = served()
	b.write(0x2080, 8)
	b.write(0x201004, 3) // enabled there by now, though the other context claimed it
	b.text("0 0 1hp 0 0 0 0 08/0 08/0")
	b = served()
	b.write(0x2000, 0)
	b.write(0x200004, 3)
	b.text("0 0 1hs 0 0 0 0 00/0 10/0")
}

func TestP14_2Best(t *testing.T) {
	b := bench{t, plic.New()}
	for n := 1; n < 8; n++ {
		b.raise(n, true, api.OK)
	}
	for n, priority := range map[uint64]uint64{1: 1, 2: 0, 3: 4, 4: 4, 5: 7, 6: 4, 7: 7} {
		b.write(4*n, priority)
	}
	b.write(0x2000, 0xde) // all but 5
	b.write(0x200000, 7)  // the threshold makes no difference to a claim
	b.calls(0, false)
	for _, want := range []uint64{7, 3, 4, 6, 1, 0, 0} {
		b.read(0x200004, want)
	}
	b.text("1hs 0hp 4hs 4hs 7hp 4hs 7hs de/7 00/0")
}

// model is the chapter's words over maps.
type model struct {
	pri, en, th [8]uint64
	high        [8]bool
	pend, serv  [8]bool
}

func (m *model) settle() {
	for n := range m.high {
		if m.high[n] && !m.pend[n] && !m.serv[n] {
			m.pend[n] = true
		}
	}
}

func (m *model) best(c int) (best int) {
	for n := 7; n > 0; n-- {
		if m.pend[n] && m.en[c]>>n&1 == 1 && m.pri[n] > 0 && (best == 0 || m.pri[n] >= m.pri[best]) {
			best = n
		}
	}
	return best
}

func (m *model) calls(c int) bool {
	for n := 1; n < 8; n++ {
		if m.pend[n] && m.en[c]>>n&1 == 1 && m.pri[n] > 0 && m.pri[n] > m.th[c] {
			return true
		}
	}
	return false
}

func (m *model) text() string {
	var l []string
	for n := 1; n < 8; n++ {
		s := fmt.Sprint(m.pri[n])
		if m.high[n] {
			s += "h"
		}
		if m.pend[n] {
			s += "p"
		}
		if m.serv[n] {
			s += "s"
		}
		l = append(l, s)
	}
	return fmt.Sprintf("%s %02x/%d %02x/%d", strings.Join(l, " "), m.en[0], m.th[0], m.en[1], m.th[1])
}

func TestP14_4To6Model(t *testing.T) {
	n := uint64(7)
	next := func(end uint64) uint64 {
		n = n*6364136223846793005 + 1442695040888963407
		return (n >> 20) % end
	}
	p, m := plic.New(), &model{}
	for step := range 60000 {
		s, c := int(next(8)), next(2)
		switch next(8) {
		case 0, 1:
			high := next(2) == 1
			e := p.Raise(s, high)
			if (e == api.OK) != (s > 0) {
				t.Fatalf("Raise(%d) = %v", s, e)
			}
			if s > 0 {
				m.high[s] = high
			}
		case 2:
			v := next(9)
			p.Write(uint64(4*s), v, 4)
			if s > 0 {
				m.pri[s] = v & 7
			}
		case 3:
			v := next(512)
			if next(4) == 0 {
				p.Write(0x2000+0x80*c, v, 4)
				m.en[c] = v & 0xfe
			}
		case 4:
			if next(4) == 0 {
				v := next(9)
				p.Write(0x200000+0x1000*c, v, 4)
				m.th[c] = v & 7
			}
		case 5, 6:
			want := m.best(int(c))
			if p.Calls(int(c)) && want == 0 {
				t.Fatalf("step %d: it calls, and a claim is 0", step)
			}
			if got, ok := p.Read(0x200004+0x1000*c, 4); int(got) != want || !ok {
				t.Fatalf("step %d: claim by %d = %d, want %d (%s)", step, c, got, want, m.text())
			}
			if want > 0 {
				m.pend[want], m.serv[want] = false, true
			}
		case 7:
			p.Write(0x200004+0x1000*c, uint64(s), 4)
			if m.serv[s] && m.en[c]>>s&1 == 1 {
				m.serv[s] = false
			}
		}
		m.settle()
		if got := p.Text(); got != m.text() {
			t.Fatalf("step %d: %q, want %q", step, got, m.text())
		}
		for c := range 2 {
			if p.Calls(c) != m.calls(c) {
				t.Fatalf("step %d: Calls(%d) = %v: %s", step, c, p.Calls(c), m.text())
			}
		}
	}
}

func TestP14_3CopyAndSame(t *testing.T) {
	p := plic.New()
	p.Raise(3, true)
	p.Write(12, 5, 4)
	p.Write(0x2080, 8, 4)
	c := p.Copy()
	if c == nil || c == p || !plic.Same(p, c) || !plic.Same(c, p) || c.Text() != p.Text() {
		t.Fatal("Copy isn't the same")
	}
	for name, change := range map[string]func(*plic.PLIC){
		"a priority":     func(p *plic.PLIC) { p.Write(16, 1, 4) },
		"a level":        func(p *plic.PLIC) { p.Raise(3, false) },
		"what pends":     func(p *plic.PLIC) { p.Raise(5, true); p.Raise(5, false) },
		"what is served": func(p *plic.PLIC) { p.Read(0x201004, 4) },
		"enabled":        func(p *plic.PLIC) { p.Write(0x2000, 2, 4) },
		"enabled there":  func(p *plic.PLIC) { p.Write(0x2080, 2, 4) },
		"a threshold":    func(p *plic.PLIC) { p.Write(0x200000, 2, 4) },
		"another one":    func(p *plic.PLIC) { p.Write(0x201000, 2, 4) },
	} {
		c := p.Copy()
		before := p.Text()
		change(c)
		if plic.Same(p, c) || plic.Same(c, p) || p.Text() != before {
			t.Errorf("%s: a change of a copy: %q, %q", name, p.Text(), c.Text())
		}
		if again := p.Copy(); again != nil {
			change(again)
			if !plic.Same(c, again) {
				t.Errorf("%s: two copies that are changed alike", name)
			}
		}
	}
	if plic.Same(p, plic.New()) || !plic.Same(plic.New(), plic.New()) || !plic.Same(p, p) {
		t.Error("Same")
	}
}
