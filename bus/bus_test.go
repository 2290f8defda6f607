package bus_test

import (
	"fmt"
	"strings"
	"testing"

	"almonry/api"
	"almonry/blk"
	"almonry/bus"
	"almonry/clint"
	"almonry/codec"
	"almonry/dog"
	"almonry/image"
	"almonry/plic"
	"almonry/portio"
	"almonry/ram"
	"almonry/uart"
)

const base = 0x80000000

// link answers sends and receives, and records what it was sent.
type link struct {
	sent    []string
	waiting int
}

func (l *link) Send(port uint8, s string) uint8 {
	l.sent = append(l.sent, fmt.Sprint(port, s))
	return 0
}

func (l *link) Receive(port uint8) (string, uint64, uint8) { return "hi", 7, 0 }

func (l *link) Waiting(port uint8) int { return l.waiting }

type bench struct {
	t    *testing.T
	b    *bus.Bus
	told *[]string
}

func fresh(t *testing.T, pages int, limit uint32, l portio.Link) bench {
	t.Helper()
	b, e := bus.New(pages, limit, l)
	if b == nil || e != api.OK {
		t.Fatalf("New = %v, %v", b, e)
	}
	told := &[]string{}
	b.Watch(func(pa, n uint64) { *told = append(*told, fmt.Sprintf("%x:%d", pa, n)) })
	return bench{t, b, told}
}

func (x bench) read(pa uint64, width int, want uint64, ok bool) {
	x.t.Helper()
	if v, is := x.b.Read(pa, width); v != want || is != ok {
		x.t.Errorf("Read(%#x, %d) = %#x, %v; want %#x, %v", pa, width, v, is, want, ok)
	}
}

func (x bench) write(pa, v uint64, width int, ok bool) {
	x.t.Helper()
	if is := x.b.Write(pa, v, width); is != ok {
		x.t.Errorf("Write(%#x, %#x, %d) = %v", pa, v, width, is)
	}
}

func (x bench) tick(want bool) {
	x.t.Helper()
	if got := x.b.Tick(); got != want {
		x.t.Errorf("Tick = %v", got)
	}
}

func (x bench) hw(want uint64) {
	x.t.Helper()
	if got := x.b.Hw(); got != want {
		x.t.Errorf("Hw = %#x, want %#x", got, want)
	}
}

func (x bench) tells(want string) {
	x.t.Helper()
	if got := strings.Join(*x.told, " "); got != want {
		x.t.Errorf("told %q, want %q", got, want)
	}
	*x.told = nil
}

func TestP22_1To5Examples(t *testing.T) {
	x := fresh(t, 1, 5, nil)
	x.write(0x80000ff8, 7, 8, true)
	x.tells("80000ff8:8")
	x.read(0x80000ff8, 1, 7, true)
	x.read(0x80001000, 1, 0, false)
	x.read(0x80000fff, 2, 0, false)
	x.read(0x7fffffff, 1, 0, false)
	x.write(0x02004000, 1, 8, true)
	x.tick(false)
	x.hw(1 << 7)
	if x.b.Time() != 1 {
		t.Errorf("Time %d", x.b.Time())
	}
	x.read(0x0200bff8, 8, 1, true)
	if x.b.Line(4, true) != api.OK || x.b.Line(3, true) != api.ErrArg {
		t.Error("Line")
	}
	x.write(0x0c000010, 1, 4, true)
	x.write(0x0c002080, 16, 4, true)
	x.hw(1 << 7)
	x.tick(false)
	x.hw(1<<7 | 1<<9)
	x.write(0x10000000, 65, 1, true)
	if s := x.b.Sent(); s != "A" {
		t.Errorf("Sent %q", s)
	}
	if s := x.b.Sent(); s != "" {
		t.Errorf("Sent %q", s)
	}
	x.tick(false)
	x.tick(false)
	x.tick(true)
	x.read(0x10002008, 4, 5, true)
	x.read(0x10003000, 4, 0, false)
	x.read(0x10001000, 4, 0, true)
	x.b.Reset()
	x.hw(0)
	if x.b.Time() != 0 {
		t.Errorf("Time %d", x.b.Time())
	}
	x.tells("")
}

func TestP22_1New(t *testing.T) {
	for _, pages := range []int{-1 << 63, -1, 0, 17, 1 << 40} {
		if b, e := bus.New(pages, 1, nil); b != nil || e != api.ErrArg {
			t.Errorf("New(%d) = %v, %v", pages, b, e)
		}
	}
	for pages := 1; pages <= 16; pages++ {
		x := fresh(t, pages, 1, nil)
		size := uint64(pages) * 4096
		x.read(base+size-1, 1, 0, true)
		x.read(base+size, 1, 0, false)
	}
}

func TestP22_1NothingMade(t *testing.T) {
	for name, b := range map[string]*bus.Bus{"nil": nil, "not made": {}} {
		if v, ok := b.Read(base, 4); v != 0 || ok {
			t.Errorf("%s: Read", name)
		}
		if v, ok := b.Read(0x0200bff8, 8); v != 0 || ok {
			t.Errorf("%s: Read of a device", name)
		}
		b.Watch(func(uint64, uint64) { t.Errorf("%s: something is told", name) })
		b.Delay(3)
		b.Drop()
		b.Reset()
		if b.Write(base, 1, 4) || b.Write(0x02000000, 1, 4) || b.RAM(base, 0) || b.RAM(base, 1) || b.Tick() || b.Hw() != 0 || b.Time() != 0 || b.Input('a') || b.Sent() != "" || b.Reserve(base, 4) || b.Held(base, 4) || b.Dump() != "" {
			t.Errorf("%s: something is there", name)
		}
		if s, e := b.Bytes(base, 1); s != "" || e != api.ErrNil {
			t.Errorf("%s: Bytes %v", name, e)
		}
		for _, e := range []api.Errno{b.Put(base, "a"), b.Put(base, ""), b.Line(4, true), b.Line(0, true), b.Load(image.Image{})} {
			if e != api.ErrNil {
				t.Errorf("%s: %v", name, e)
			}
		}
	}
}

func TestP22_1Memory(t *testing.T) {
	x := fresh(t, 1, 0, nil)
	for _, c := range []struct {
		pa   uint64
		n    int
		want bool
	}{
		{base, 0, true}, {base, 1, true}, {base, 4096, true}, {base, 4097, false}, {base + 1, 4096, false}, {base + 4095, 1, true}, {base + 4096, 1, false}, {base + 4096, 0, true}, {base + 4097, 0, false},
		{base - 1, 2, false}, {base - 1, 1, false}, {0, 0, false}, {base, -1, false}, {base + 5, -1 << 63, false}, {base, 1<<63 - 1, false}, {1<<64 - 1, 1, false}, {1<<64 - 1, 2, false}, {0x10000000, 1, false},
	} {
		if got := x.b.RAM(c.pa, c.n); got != c.want {
			t.Errorf("RAM(%#x, %d) = %v", c.pa, c.n, got)
		}
		if c.n >= 0 {
			want := api.ErrRange
			if c.want {
				want = api.OK
			}
			if s, e := x.b.Bytes(c.pa, uint64(c.n)); e != want || c.want && len(s) != c.n || !c.want && s != "" {
				t.Errorf("Bytes(%#x, %d): %d bytes, %v", c.pa, c.n, len(s), e)
			}
		}
		if c.n >= 0 && c.n < 5000 {
			*x.told = nil
			e := x.b.Put(c.pa, strings.Repeat("p", c.n))
			if (e == api.OK) != c.want || !c.want && e != api.ErrRange {
				t.Errorf("Put(%#x, %d bytes): %v", c.pa, c.n, e)
			}
			if c.n > 0 {
				want := ""
				if c.want {
					want = fmt.Sprintf("%x:%d", c.pa, c.n)
				}
				x.tells(want)
			}
		}
	}
	if e := x.b.Put(base+9, "some bytes"); e != api.OK {
		t.Errorf("Put: %v", e)
	}
	if s, e := x.b.Bytes(base+14, 5); s != "bytes" || e != api.OK {
		t.Errorf("Bytes: %q, %v", s, e)
	}
	x.read(base+9, 4, 'e'<<24|'m'<<16|'o'<<8|'s', true)
}

func TestP22_1Reservation(t *testing.T) {
	x := fresh(t, 1, 0, nil)
	b := x.b
	for _, c := range []struct {
		pa    uint64
		width int
		want  bool
	}{{base, 4, true}, {base + 8, 8, true}, {base + 4, 8, false}, {base + 4092, 4, true}, {base + 4096, 4, false}, {base - 8, 8, false}, {base - 4, 4, false}, {0, 8, false}, {8, 8, false}, {base, 2, false}, {1<<64 - 8, 8, false}} {
		b.Drop()
		if got := b.Reserve(c.pa, c.width); got != c.want || b.Held(c.pa, c.width) != c.want {
			t.Errorf("Reserve(%#x, %d) = %v", c.pa, c.width, got)
		}
	}
	b.Reserve(base+8, 8)
	if b.Held(8, 8) || b.Held(base+8, 4) || b.Held(base, 8) {
		t.Error("held elsewhere")
	}
	x.write(base+16, 1, 1, true)
	if !b.Held(base+8, 8) {
		t.Error("a write beside it ended it")
	}
	x.write(base+15, 1, 1, true)
	if b.Held(base+8, 8) {
		t.Error("a write of one of its bytes left it")
	}
	b.Reserve(base+8, 8)
	b.Put(base+4, "abcde")
	if b.Held(base+8, 8) {
		t.Error("a Put of one of its bytes left it")
	}
	b.Reserve(base+8, 8)
	b.Load(image.Image{Entry: base})
	if b.Held(base+8, 8) {
		t.Error("a Load left it")
	}
	b.Reserve(base+8, 8)
	b.Reset()
	if b.Held(base+8, 8) {
		t.Error("a Reset left it")
	}
	b.Reserve(base+8, 8)
	b.Drop()
	if b.Held(base+8, 8) {
		t.Error("a Drop left it")
	}
	x.b.Tick()
}

// places are the devices' beginnings and lengths, as the document's numbers.
var places = []struct {
	name         string
	base, length uint64
}{
	{"clint", 0x02000000, 0xc000}, {"plic", 0x0c000000, 0x202000}, {"uart", 0x10000000, 8}, {"blk", 0x10001000, 32}, {"dog", 0x10002000, 24}, {"ports", 0x10003000, 4096},
}

// TestP22_2Devices: at each offset the bus tells what a device of its own tells.
func TestP22_2Devices(t *testing.T) {
	l := &link{waiting: 3}
	x := fresh(t, 1, 9, l)
	cl, pl, ua, bl, do, po := clint.New(), plic.New(), uart.New(), blk.New(), dog.New(9), portio.New(&link{waiting: 3})
	read := map[string]func(off uint64, width int) (uint64, bool){"clint": cl.Read, "plic": pl.Read, "uart": ua.Read, "blk": bl.Read, "dog": do.Read, "ports": po.Read}
	write := map[string]func(off, v uint64, width int) bool{
		"clint": func(off, v uint64, width int) bool { return cl.Write(off, width, v) },
		"plic":  pl.Write,
		"uart":  func(off, v uint64, width int) bool { return ua.Write(off, width, v) },
		"blk":   bl.Write,
		"dog":   func(off, v uint64, width int) bool { return do.Write(off, width, v) },
		"ports": func(off, v uint64, width int) bool { return po.Write(off, width, v) },
	}
	for _, p := range places {
		var offs []uint64
		for off := uint64(0); off < p.length+10; off++ {
			if off > 0x160 && off+40 < p.length && off%0x1000 > 9 && off%0x3ff8 > 9 {
				continue
			}
			offs = append(offs, off)
		}
		for _, off := range offs {
			for _, width := range []int{1, 2, 4, 8, 0, 3, 16, -1, -8} {
				lies := (width == 1 || width == 2 || width == 4 || width == 8) && off+uint64(width) <= p.length
				v, ok := uint64(0), false
				if lies {
					v, ok = read[p.name](off, width)
				}
				x.read(p.base+off, width, v, ok)
				n := off*0x9e3779b97f4a7c15 + uint64(width)
				ok = lies && write[p.name](off, n, width)
				x.write(p.base+off, n, width, ok)
			}
		}
		for _, d := range []uint64{1, 2, 4, 8} { // one that begins ahead of it lies in nothing
			x.read(p.base-d, 8, 0, false)
			x.write(p.base-d, 1, 8, false)
		}
		if t.Failed() {
			t.Fatal(p.name)
		}
	}
	x.tells("")
	memory, _ := x.b.Bytes(base, 4096)
	sectors := ""
	for n := range 32 {
		s, _ := bl.Sector(n)
		sectors += s
	}
	if got, want := x.b.Dump(), dump(cl, pl.Text(), bl.Text(), ua.Dump(), po.Dump(), do.Left(), "\x00\x00\x00\x00", memory, sectors); got != want {
		t.Errorf("Dump %q, want %q", got, want)
	}
}

// dump lays the chapter's bytes.
func dump(cl *clint.Clint, pl, bl, ua, po string, left uint32, lines, memory, sectors string) string {
	le := func(n uint64, width int) string {
		b := make([]byte, width)
		for i := range b {
			b[i] = byte(n >> (8 * i))
		}
		return string(b)
	}
	s := le(cl.Msip, 8) + le(cl.Mtimecmp, 8) + le(cl.Mtime, 8)
	for _, x := range []string{pl, bl, ua, po} {
		s += le(uint64(len(x)), 2) + x
	}
	return s + le(uint64(left), 4) + lines + le(uint64(codec.Sum(memory)), 4) + le(uint64(codec.Sum(sectors)), 4)
}

func TestP22_2NoPlace(t *testing.T) {
	x := fresh(t, 1, 5, &link{})
	for _, pa := range []uint64{0, 1, 0x1000, 0x01ffffff, 0x0200c000, 0x0c202000, 0x10000008, 0x10000010, 0x10001020, 0x10002018, 0x10004000, 0x20000000, 0x7ffffff8, base - 1, base + 4096, 0x80100000, 1 << 32, 1<<32 | base, 1<<63 | base, 1<<64 - 1, 1<<64 - 8} {
		for _, width := range []int{1, 2, 4, 8} {
			x.read(pa, width, 0, false)
			x.write(pa, 1, width, false)
		}
	}
	for _, width := range []int{0, 3, 5, 6, 7, 9, 16, -1, -4, 1 << 40, -1 << 63} {
		x.read(base, width, 0, false)
		x.write(base, 1, width, false)
		x.read(0x02004000, width, 0, false)
	}
	x.tells("")
}

func TestP22_2MemoryAndWatch(t *testing.T) {
	x := fresh(t, 2, 5, nil)
	x.write(base+0xffd, 0x1122334455667788, 8, true) // at any offset
	x.read(base+0xffd, 8, 0x1122334455667788, true)
	x.read(base+0xffe, 2, 0x6677, true)
	x.write(base+3, 0x1ff, 1, true)
	x.read(base, 4, 0xff000000, true)
	x.write(base+8190, 1, 2, true)
	x.write(base+8191, 1, 2, false)
	x.tells("80000ffd:8 80000003:1 80001ffe:2")
	other := []uint64{}
	x.b.Watch(func(pa, n uint64) {
		v, _ := x.b.Read(pa, int(n)) // it is told behind the writing
		other = append(other, v)
	})
	x.write(base+4, 77, 4, true)
	x.tells("") // another one watches, alone
	if len(other) != 1 || other[0] != 77 {
		t.Errorf("told %v", other)
	}
	x.b.Watch(nil)
	x.write(base+4, 78, 4, true)
	x.read(base+4, 4, 78, true)
	if len(other) != 1 {
		t.Error("nobody watches")
	}
}

func TestP22_3Tick(t *testing.T) {
	l := &link{}
	x := fresh(t, 1, 0, l)
	for n := uint64(1); n < 8; n++ {
		x.write(0x0c000000+4*n, 1, 4, true)
	}
	pending := func(want uint64) {
		t.Helper()
		x.read(0x0c001000, 4, want, true)
	}
	x.tick(false)
	pending(0)
	x.write(0x10000001, 2, 1, true) // the uart asks: IER's bit 1 becomes 1
	pending(0)
	x.tick(false)
	pending(1 << 1)
	l.waiting = 1
	x.tick(false)
	pending(1<<1 | 1<<3)
	x.b.Line(7, true)
	x.b.Line(5, true)
	x.b.Line(5, false)
	pending(1<<1 | 1<<3)
	x.tick(false)
	pending(1<<1 | 1<<3 | 1<<7)
	x.write(0x10001008, base+64, 8, true)
	x.write(0x10001010, 1, 4, true)
	x.tick(false) // the block device ends, and that is told at the same tick
	pending(1<<1 | 1<<2 | 1<<3 | 1<<7)
	x.tells("80000040:64")
	x.hw(0)
	x.write(0x0c002000, 0xfe, 4, true)
	x.hw(1 << 11)
	x.write(0x0c002080, 0xfe, 4, true)
	x.hw(1<<11 | 1<<9)
	x.write(0x0c200000, 7, 4, true)
	x.hw(1 << 9)
	x.write(0x02000000, 1, 4, true)
	x.hw(1<<9 | 1<<3)
	x.read(0x0c201004, 4, 1, true) // claims the uart's
	x.read(0x10000002, 1, 2, true) // which asks no more
	x.tick(false)
	x.write(0x0c201004, 1, 4, true)
	x.tick(false)
	pending(1<<2 | 1<<3 | 1<<7)
	x.b.Line(7, false)
	l.waiting = 0
	x.write(0x10001018, 0, 4, true)
	x.read(0x0c201004, 4, 2, true)
	x.read(0x0c201004, 4, 3, true)
	x.read(0x0c201004, 4, 7, true)
	x.tick(false)
	for _, n := range []uint64{2, 3, 7} {
		x.write(0x0c201004, n, 4, true)
	}
	x.tick(false)
	pending(0)
	if x.b.Time() != 9 {
		t.Errorf("Time %d", x.b.Time())
	}
	x.tells("")
}

func TestP22_3TickOrder(t *testing.T) {
	x := fresh(t, 1, 2, nil)
	x.tick(false)
	x.read(0x10002008, 4, 1, true)
	x.tick(true)
	x.read(0x10002008, 4, 2, true)
	x.tick(false)
	x.write(0x10002000, 0, 4, true)
	x.tick(false)
	x.tick(true)
	// Without a link the source of the ports is low.
	for range 3 {
		x.b.Tick()
	}
	x.read(0x0c001000, 4, 0, true)
}

func TestP22_3BlockDevice(t *testing.T) {
	x := fresh(t, 1, 0, nil)
	x.b.Put(base+100, strings.Repeat("sector..", 8))
	x.tells("80000064:64")
	x.b.Delay(3)
	x.write(0x10001000, 5, 4, true)
	x.write(0x10001008, base+100, 8, true)
	x.write(0x10001010, 2, 4, true)
	for i := range 3 {
		x.read(0x10001014, 4, 1, true)
		x.tick(false)
		if i < 2 {
			x.read(0x10001014, 4, 1, true)
		}
	}
	x.read(0x10001014, 4, 2, true)
	x.tells("") // a read of the memory is no writing
	x.b.Delay(0)
	x.write(0x10001008, base+4032, 8, true)
	x.write(0x10001010, 1, 4, true)
	x.tick(false)
	x.tells("80000fc0:64")
	if s, _ := x.b.Bytes(base+4032, 64); s != strings.Repeat("sector..", 8) {
		t.Errorf("the sector: %q", s)
	}
	for _, pa := range []uint64{base + 4033, base - 1, 0x10001000, 0, 1<<64 - 1} {
		x.write(0x10001008, pa, 8, true)
		x.write(0x10001010, 1, 4, true)
		x.tick(false)
		x.read(0x10001014, 4, 3, true)
	}
	x.tells("")
}

func TestP22_4Outside(t *testing.T) {
	x := fresh(t, 1, 0, nil)
	for i := range 17 {
		if got := x.b.Input(byte('a' + i)); got != (i < 16) {
			t.Errorf("Input %d: %v", i, got)
		}
	}
	x.read(0x10000000, 1, 'a', true)
	for _, n := range []int{-1 << 63, -1, 0, 1, 2, 3, 8, 9, 1 << 40, 256 + 4} {
		if e := x.b.Line(n, true); e != api.ErrArg {
			t.Errorf("Line(%d): %v", n, e)
		}
	}
	for n := 4; n < 8; n++ {
		if e := x.b.Line(n, true); e != api.OK {
			t.Errorf("Line(%d): %v", n, e)
		}
	}
	x.read(0x0c001000, 4, 0, true)
	x.tick(false)
	x.read(0x0c001000, 4, 0xf0, true)
	x.write(0x10000000, 'h', 1, true)
	x.write(0x10000000, 'i', 1, true)
	x.tick(false)
	if s := x.b.Sent(); s != "hi" || x.b.Sent() != "" {
		t.Errorf("Sent %q", s)
	}
}

func TestP22_5Load(t *testing.T) {
	x := fresh(t, 2, 0, nil)
	x.b.Put(base, strings.Repeat("x", 8192))
	x.tells("80000000:8192")
	img := image.Image{Entry: base, L: []image.Segment{{At: base + 4, Bytes: "abc"}, {At: base + 8190, Bytes: "yz"}}}
	if e := x.b.Load(img); e != api.OK {
		t.Errorf("Load: %v", e)
	}
	x.tells("80000000:8192")
	want := "\x00\x00\x00\x00abc" + strings.Repeat("\x00", 8183) + "yz"
	if s, _ := x.b.Bytes(base, 8192); s != want {
		t.Error("the image's bytes")
	}
	img.L[1].At++
	if e := x.b.Load(img); e != api.ErrRange {
		t.Errorf("Load behind the end: %v", e)
	}
	x.tells("")
	if s, _ := x.b.Bytes(base, 8192); s != want {
		t.Error("a refused Load wrote")
	}
}

func TestP22_5Reset(t *testing.T) {
	l := &link{waiting: 1}
	x := fresh(t, 1, 7, l)
	first := x.b.Dump()
	x.b.Delay(3)
	x.b.Line(6, true)
	x.b.Put(base+64, strings.Repeat("s", 64))
	x.write(0x10001008, base+64, 8, true)
	x.write(0x10001010, 2, 4, true)
	for range 3 {
		x.tick(false)
	}
	x.write(0x10001000, 9, 4, true)
	x.write(0x10001010, 1, 4, true)
	x.write(0x02000000, 1, 4, true)
	x.write(0x02004000, 1, 8, true)
	x.write(0x0c000018, 5, 4, true)
	x.write(0x0c002000, 0x40, 4, true)
	x.write(0x0c200000, 3, 4, true)
	for off := range uint64(8) {
		x.write(0x10000000+off, 'z', 1, true)
	}
	x.b.Input('q')
	x.write(0x10003240, 'b', 1, true)
	x.write(0x10003210, 2, 4, true)
	x.b.Reserve(base, 8)
	*x.told = nil
	n := len(l.sent)
	x.b.Reset()
	x.tells("")
	if len(l.sent) != n {
		t.Error("the link was told something")
	}
	if x.b.Sent() != "" || x.b.Held(base, 8) || x.b.Time() != 0 || x.b.Hw() != 0 {
		t.Error("something stayed")
	}
	memory, _ := x.b.Bytes(base, 4096)
	want := dump(clint.New(), plic.New().Text(), "0 0 0 0 0 3", uart.New().Dump(), portio.New(l).Dump(), 7, "\x00\x00\x01\x00", memory, strings.Repeat("s", 64)+strings.Repeat("\x00", 31*64))
	if got := x.b.Dump(); got != want {
		t.Errorf("behind Reset: %q, want %q", got, want)
	}
	if s, _ := x.b.Bytes(base+64, 64); s != strings.Repeat("s", 64) {
		t.Error("the memory stays")
	}
	for range 6 { // the command that was there never ends
		x.tick(false)
	}
	x.tells("")
	x.tick(true) // the watchdog counts from the reset on
	x.read(0x0c001000, 4, 1<<6|1<<3, true)
	if want := dump(clint.New(), plic.New().Text(), blk.New().Text(), uart.New().Dump(), portio.New(l).Dump(), 7, "\x00\x00\x00\x00", strings.Repeat("\x00", 4096), strings.Repeat("\x00", 2048)); first != want {
		t.Errorf("at first: %q, want %q", first, want)
	}
}

func TestP22_5ResetMakesUsableDevices(t *testing.T) {
	x := fresh(t, 1, 0, nil)
	x.b.Reset()
	x.write(0x02004000, 1, 8, true)
	x.tick(false)
	x.hw(1 << 7)
	x.write(0x10000000, 'k', 1, true)
	if s := x.b.Sent(); s != "k" {
		t.Errorf("Sent %q", s)
	}
	x.write(0x0c000010, 2, 4, true)
	x.read(0x0c000010, 4, 2, true)
}

func TestP22_6Dump(t *testing.T) {
	x := fresh(t, 1, 0, nil)
	x.b.Line(4, true)
	x.b.Line(7, true)
	x.b.Put(base, "memory")
	m := ram.New(1)
	m.Put(0, "memory")
	memory, _ := m.Bytes(0, 4096)
	sectors := strings.Repeat("\x00", 2048)
	want := dump(clint.New(), "0 0 0 0 0 0 0 00/0 00/0", "0 0 0 0 0 0", strings.Repeat("\x00", 9), "", 0, "\x01\x00\x00\x01", memory, sectors)
	if got := x.b.Dump(); got != want {
		t.Errorf("Dump %q, want %q", got, want)
	}
	x = fresh(t, 1, 1<<32-1, &link{})
	x.tick(false)
	c := clint.New()
	c.Tick()
	want = dump(c, "0 0 0 0 0 0 0 00/0 00/0", "0 0 0 0 0 0", strings.Repeat("\x00", 9), portio.New(&link{}).Dump(), 1<<32-2, "\x00\x00\x00\x00", strings.Repeat("\x00", 4096), sectors)
	if got := x.b.Dump(); got != want {
		t.Errorf("Dump %q, want %q", got, want)
	}
}

// TestP22_7And8: random accesses; no byte changes without being told, and no device by what is done at another one's place.
func TestP22_7And8(t *testing.T) {
	r := uint64(3)
	next := func(end uint64) uint64 {
		r = r*6364136223846793005 + 1442695040888963407
		return (r >> 20) % end
	}
	x, y := fresh(t, 1, 50, &link{}), fresh(t, 1, 50, &link{})
	y.b.Watch(nil) // a watcher makes no difference
	shadow := make([]byte, 4096)
	x.b.Watch(func(pa, n uint64) {
		s, _ := x.b.Bytes(pa, n)
		copy(shadow[pa-base:], s)
	})
	offs := []uint64{0, 4, 8, 12, 16, 20, 24, 64, 0x104, 0x110, 0x140, 0x1000, 0x2000, 0x2080, 0x4000, 0xbff8, 0x200000, 0x200004, 0x201004}
	for step := range 10000 {
		width := 1 << next(4)
		pa := base + next(4100)
		k := next(10)
		if k < 6 {
			pa = places[k].base + offs[next(uint64(len(offs)))]%places[k].length
		}
		v := next(8)
		if next(3) == 0 {
			v = base + next(4096)
		}
		before := x.b.Dump()
		memory, _ := x.b.Bytes(base, 4096)
		if x.b.Write(pa, v, width) != y.b.Write(pa, v, width) {
			t.Fatalf("step %d: Write(%#x) with a watcher and without", step, pa)
		}
		after := x.b.Dump()
		if k < 6 {
			if now, _ := x.b.Bytes(base, 4096); now != memory {
				t.Fatalf("step %d: a write at %#x changed the memory", step, pa)
			}
			checkApart(t, places[k].name, before, after)
		}
		a, ok := x.b.Read(pa, width)
		if b, ok2 := y.b.Read(pa, width); a != b || ok != ok2 {
			t.Fatalf("step %d: Read(%#x) with a watcher and without", step, pa)
		}
		if next(3) == 0 && x.b.Tick() != y.b.Tick() {
			t.Fatalf("step %d: Tick with a watcher and without", step)
		}
		if now, _ := x.b.Bytes(base, 4096); now != string(shadow) {
			t.Fatalf("step %d: a byte changed without being told", step)
		}
		if step%100 == 0 && x.b.Dump() != y.b.Dump() {
			t.Fatalf("step %d: Dump with a watcher and without", step)
		}
	}
}

// checkApart holds the parts of two Dumps against each other: one device's alone may differ.
func checkApart(t *testing.T, name, a, b string) {
	t.Helper()
	p, q := parts(a), parts(b)
	for i, part := range []string{"clint", "plic", "blk", "uart", "ports", "dog", "the rest"} {
		if part != name && p[i] != q[i] {
			t.Fatalf("a write at the place of %s changed %s: %q, %q", name, part, p[i], q[i])
		}
	}
}

func parts(s string) []string {
	l := []string{s[:24]}
	s = s[24:]
	for range 4 {
		n := int(s[0]) | int(s[1])<<8
		l = append(l, s[2:2+n])
		s = s[2+n:]
	}
	return append(l, s[:4], s[4:])
}
