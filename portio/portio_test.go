package portio_test

import (
	"fmt"
	"strings"
	"testing"

	"almonry/api"
	"almonry/portio"
)

// link records what it is told, and answers what it is set to.
type link struct {
	log     []string
	status  uint8
	s       string
	age     uint64
	got     uint8
	waiting [16]int
}

func (l *link) Send(port uint8, s string) uint8 {
	l.log = append(l.log, fmt.Sprintf("send %d %q", port, s))
	return l.status
}

func (l *link) Receive(port uint8) (string, uint64, uint8) {
	l.log = append(l.log, fmt.Sprintf("receive %d", port))
	return l.s, l.age, l.got
}

func (l *link) Waiting(port uint8) int { return l.waiting[port] }

type bench struct {
	t *testing.T
	l *link
	p *portio.Ports
}

func fresh(t *testing.T) bench {
	t.Helper()
	l := &link{s: "hi", age: 7}
	l.waiting[2] = 1
	p := portio.New(l)
	if p == nil {
		t.Fatal("New is nil")
	}
	return bench{t, l, p}
}

func (b bench) read(off uint64, width int, want uint64) {
	b.t.Helper()
	if v, ok := b.p.Read(off, width); v != want || !ok {
		b.t.Errorf("Read(%#x, %d) = %#x, %v; want %#x", off, width, v, ok, want)
	}
}

func (b bench) write(off uint64, width int, v uint64) {
	b.t.Helper()
	if !b.p.Write(off, width, v) {
		b.t.Errorf("Write(%#x, %d, %#x) is refused", off, width, v)
	}
}

func (b bench) told(want ...string) {
	b.t.Helper()
	if got := strings.Join(b.l.log, "; "); got != strings.Join(want, "; ") {
		b.t.Errorf("the link was told %s; want %s", got, want)
	}
	b.l.log = nil
}

func noughts(n int) string { return strings.Repeat("\x00", n) }

func TestP21_1Examples(t *testing.T) {
	b := fresh(t)
	b.write(0x140, 2, 0x6261)
	b.write(0x104, 4, 2)
	b.write(0x110, 4, 1)
	b.told(`send 1 "ab"`)
	b.read(0x100, 4, 0)
	b.write(0x210, 4, 2)
	b.told("receive 2")
	b.read(0x204, 4, 2)
	b.read(0x208, 8, 7)
	b.read(0x240, 2, 0x6968)
	b.read(0x214, 4, 1)
	if !b.p.Level() {
		t.Error("Level")
	}
	b.write(4, 4, 65)
	b.write(16, 4, 1)
	b.read(0, 4, 3)
	b.write(16, 4, 9)
	b.read(0, 4, 2)
	b.told()
	b.read(12, 4, 0)
}

func TestP21_1Nil(t *testing.T) {
	if portio.New(nil) != nil {
		t.Error("New of nil is no nil")
	}
	for name, p := range map[string]*portio.Ports{"nil": nil, "not made": {}} {
		if v, ok := p.Read(4, 4); v != 0 || ok {
			t.Errorf("%s: Read", name)
		}
		p.Reset()
		if p.Write(4, 4, 1) || p.Write(16, 4, 1) || p.Write(16, 4, 2) || p.Level() || p.Dump() != "" {
			t.Errorf("%s: something is there", name)
		}
		if v, ok := p.Read(20, 4); v != 0 || ok {
			t.Errorf("%s: Read of WAITING", name)
		}
	}
}

// is tells whether an access is one, by the chapter's words.
func is(off uint64, width int) bool {
	at := off % 256
	switch {
	case off >= 4096 || width != 1 && width != 2 && width != 4 && width != 8 || at%uint64(width) != 0:
		return false
	case at == 0 || at == 4 || at == 12 || at == 16 || at == 20:
		return width == 4
	case at == 8:
		return width >= 4
	}
	return at >= 64 && at+uint64(width) <= 128
}

func TestP21_1Accesses(t *testing.T) {
	widths := []int{1, 2, 4, 8, 0, 3, 5, 16, 64, -1, -4, 1 << 40, -1 << 63}
	for off := range uint64(4096 + 40) {
		if at := off % 256; at > 140 && at < 250 {
			continue
		}
		for _, width := range widths {
			b := fresh(t)
			want := is(off, width)
			if v, ok := b.p.Read(off, width); ok != want || v != 0 && off%256 != 20 {
				t.Fatalf("Read(%#x, %d) = %#x, %v; want %v", off, width, v, ok, want)
			}
			if got := b.p.Write(off, width, 9); got != want {
				t.Fatalf("Write(%#x, %d, 9) = %v; want %v", off, width, got, want)
			}
			if !want && b.p.Dump() != strings.Repeat(noughts(77), 16) {
				t.Fatalf("Write(%#x, %d, 9) did something", off, width)
			}
			b.told()
		}
	}
	b := fresh(t)
	for _, off := range []uint64{1 << 32, 1<<32 + 4, 1 << 63, 1<<64 - 4, 1<<64 - 8} {
		if _, ok := b.p.Read(off, 4); ok || b.p.Write(off, 4, 1) {
			t.Errorf("an access at %#x", off)
		}
	}
}

func TestP21_1Registers(t *testing.T) {
	b := fresh(t)
	all := uint64(1<<64 - 1)
	b.l.got, b.l.age, b.l.s = api.StatusStale, 0x1122334455667788, "xyz"
	b.write(0x310, 4, 2)
	b.read(0x300, 4, 5)
	b.read(0x304, 4, 3)
	b.read(0x308, 8, 0x1122334455667788)
	b.read(0x308, 4, 0x55667788)
	b.read(0x30c, 4, 0x11223344)
	b.read(0x310, 4, 0)
	for _, at := range []uint64{0x300, 0x308, 0x30c, 0x314} { // what is written there changes nothing
		before := b.p.Dump()
		b.write(at, 4, all)
		if b.p.Dump() != before {
			t.Errorf("a write of %#x did something", at)
		}
	}
	b.write(0x308, 8, all)
	b.read(0x308, 8, 0x1122334455667788)
	b.write(0x304, 4, all-1)
	b.read(0x304, 4, 1<<32-2)
	b.write(0x340, 8, 0x8877665544332211)
	b.read(0x340, 8, 0x8877665544332211)
	b.read(0x342, 2, 0x4433)
	b.read(0x347, 1, 0x88)
	b.read(0x344, 4, 0x88776655)
	b.write(0x345, 1, 0x1ff)
	b.read(0x344, 4, 0x8877ff55)
	b.write(0x37c, 4, all)
	b.read(0x378, 8, 0xffffffff00000000)
	for n, want := range map[int]uint64{-1: 0, -1 << 63: 0, 0: 0, 5: 5, 1<<32 - 1: 1<<32 - 1, 1 << 32: 1<<32 - 1, 1<<63 - 1: 1<<32 - 1} {
		b.l.waiting[4] = n
		b.read(0x414, 4, want)
	}
}

func TestP21_1And3Commands(t *testing.T) {
	b := fresh(t)
	long := strings.Repeat("0123456789abcdef", 4)
	for i := range 64 {
		b.write(0x540+uint64(i), 1, uint64(long[i]))
	}
	for _, n := range []uint64{0, 1, 63, 64} {
		b.write(0x504, 4, n)
		b.l.status = uint8(n)
		b.write(0x510, 4, 1<<32|1) // the lowest 32 bits alone
		b.told(fmt.Sprintf("send 5 %q", long[:n]))
		b.read(0x500, 4, n)
		b.read(0x504, 4, n)
	}
	for _, n := range []uint64{65, 66, 256, 1<<32 - 1} {
		b.write(0x504, 4, n)
		b.write(0x510, 4, 1)
		b.told()
		b.read(0x500, 4, api.StatusLong)
		b.read(0x504, 4, n)
	}
	for _, cmd := range []uint64{0, 3, 4, 9, 1 << 31, 1<<32 - 1, 1<<32 - 1<<8 + 1} {
		b.write(0x504, 4, 2)
		b.write(0x510, 4, cmd)
		b.told()
		b.read(0x500, 4, api.StatusNone)
	}
}

func TestP21_1Receive(t *testing.T) {
	b := fresh(t)
	before := strings.Repeat("z", 64)
	set := func() {
		for i := range uint64(64) {
			b.write(0x40+i, 1, 'z')
		}
		b.write(4, 4, 9)
	}
	dump := func() string { return b.p.Dump()[:77] }
	set()
	long := strings.Repeat("long", 30)
	for _, c := range []struct {
		s   string
		age uint64
		st  uint8
	}{{"hi", 7, 0}, {"", 8, 0}, {"x", 1<<64 - 1, 5}, {long[:64], 1, 0}, {long, 1, 0}, {long[:65], 2, 5}} {
		b.l.s, b.l.age, b.l.got = c.s, c.age, c.st
		set()
		b.write(16, 4, 2)
		b.told("receive 0")
		n := min(len(c.s), 64)
		want := string([]byte{c.st, byte(n), 0, 0, 0}) + le(c.age) + c.s[:n] + before[n:]
		if dump() != want {
			t.Errorf("a receive of %q: %q, want %q", c.s, dump(), want)
		}
	}
	for _, st := range []uint8{1, 2, 3, 4, 6, 255} { // others: the status alone
		set()
		b.l.s, b.l.age, b.l.got = "hi", 77, st
		old := dump()
		b.write(16, 4, 2)
		b.told("receive 0")
		if dump() != string([]byte{st})+old[1:] {
			t.Errorf("status %d: %q, was %q", st, dump(), old)
		}
	}
}

func le(n uint64) string {
	b := make([]byte, 8)
	for i := range b {
		b[i] = byte(n >> (8 * i))
	}
	return string(b)
}

func TestP21_2LevelResetDump(t *testing.T) {
	b := fresh(t)
	for n := range 16 {
		b.l.waiting = [16]int{}
		if b.p.Level() {
			t.Error("nothing waits")
		}
		b.l.waiting[n] = 1
		if !b.p.Level() {
			t.Errorf("something waits at %d", n)
		}
		b.l.waiting[n] = -1
		if b.p.Level() {
			t.Errorf("less than nothing waits at %d", n)
		}
	}
	want := ""
	for n := range uint64(16) {
		b.l.s, b.l.age, b.l.got = strings.Repeat("m", int(n)), n<<33|n, 5*uint8(n%2)
		b.write(n<<8|16, 4, 2)
		want += string([]byte{b.l.got, byte(n), 0, 0, 0}) + le(b.l.age) + b.l.s + noughts(64-int(n))
	}
	if got := b.p.Dump(); got != want {
		t.Errorf("Dump: %q, want %q", got, want)
	}
	b.l.log = nil
	b.p.Reset()
	b.told()
	if got := b.p.Dump(); got != strings.Repeat(noughts(77), 16) {
		t.Errorf("behind Reset: %q", got)
	}
	b.write(0x110, 4, 1)
	b.told(`send 1 ""`)
}

// TestP21_3To5Model: random accesses over a model of the registers.
func TestP21_3To5Model(t *testing.T) {
	r := uint64(9)
	next := func(end uint64) uint64 {
		r = r*6364136223846793005 + 1442695040888963407
		return (r >> 20) % end
	}
	type port struct {
		status, length, age uint64
		buf                 [64]byte
	}
	b := fresh(t)
	var want [16]port
	ats := []uint64{0, 4, 8, 12, 16, 20, 64, 65, 66, 68, 72, 120, 127, 60, 128}
	for step := range 50000 {
		n, at := next(16), ats[next(uint64(len(ats)))]
		width := 1 << next(4)
		b.l.s, b.l.age, b.l.got, b.l.status = strings.Repeat("q", int(next(70))), next(1<<50), uint8(next(7)), uint8(next(7))
		off, v := n<<8|at, next(1<<40)
		if at == 16 || at == 4 {
			v = next(68)
			if at == 16 {
				v = next(4)
			}
		}
		x := &want[n]
		ok := is(off, width)
		if next(2) == 0 {
			if got := b.p.Write(off, width, v); got != ok {
				t.Fatalf("step %d: Write(%#x, %d)", step, off, width)
			}
			var tell []string
			switch {
			case !ok:
			case at == 4:
				x.length = v
			case at == 16 && v == 1 && x.length > 64:
				x.status = 3
			case at == 16 && v == 1:
				tell = []string{fmt.Sprintf("send %d %q", n, x.buf[:x.length])}
				x.status = uint64(b.l.status)
			case at == 16 && v == 2:
				tell = []string{fmt.Sprintf("receive %d", n)}
				x.status = uint64(b.l.got)
				if x.status == 0 || x.status == 5 {
					x.length, x.age = uint64(copy(x.buf[:], b.l.s)), b.l.age
				}
			case at == 16:
				x.status = 2
			case at >= 64:
				for k := range width {
					x.buf[at-64+uint64(k)] = byte(v >> (8 * k))
				}
			}
			b.told(tell...)
		}
		var w uint64
		switch {
		case !ok:
		case at == 0:
			w = x.status
		case at == 4:
			w = x.length
		case at == 8 && width == 8:
			w = x.age
		case at == 8:
			w = x.age & (1<<32 - 1)
		case at == 12:
			w = x.age >> 32
		case at == 20:
			w = uint64(b.l.waiting[n])
		case at >= 64:
			for k := range width {
				w |= uint64(x.buf[at-64+uint64(k)]) << (8 * k)
			}
		}
		if got, is := b.p.Read(off, width); got != w || is != ok {
			t.Fatalf("step %d: Read(%#x, %d) = %#x, %v; want %#x, %v", step, off, width, got, is, w, ok)
		}
		if step%100 == 0 {
			dump := ""
			for _, x := range want {
				dump += string([]byte{byte(x.status)}) + le(x.length)[:4] + le(x.age) + string(x.buf[:])
			}
			if b.p.Dump() != dump {
				t.Fatalf("step %d: Dump", step)
			}
		}
		if t.Failed() {
			t.Fatalf("at step %d", step)
		}
	}
}
