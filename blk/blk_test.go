package blk_test

import (
	"fmt"
	"strings"
	"testing"

	"almonry/api"
	"almonry/blk"
)

// memory is bytes from 0 on; it may refuse, or tell another count of bytes.
type memory struct {
	b      []byte
	refuse bool
	short  int
	asked  int
}

func letters() *memory {
	m := &memory{b: make([]byte, 128)}
	for i := range m.b {
		m.b[i] = byte('a' + i%26)
	}
	return m
}

func (m *memory) Bytes(at, n uint64) (string, api.Errno) {
	m.asked++
	if m.refuse || at > uint64(len(m.b)) || n > uint64(len(m.b))-at {
		return strings.Repeat("!", 64), api.ErrRange
	}
	return string(m.b[at : at+n])[m.short:], api.OK
}

func (m *memory) Put(at uint64, s string) api.Errno {
	m.asked++
	if m.refuse || at > uint64(len(m.b)) || uint64(len(s)) > uint64(len(m.b))-at {
		return api.ErrRange
	}
	copy(m.b[at:], s)
	return api.OK
}

type bench struct {
	t *testing.T
	b *blk.BLK
	m *memory
}

func fresh(t *testing.T) bench { return bench{t, blk.New(), letters()} }

func (x bench) write(off, v uint64, width int) {
	x.t.Helper()
	if !x.b.Write(off, v, width) {
		x.t.Errorf("Write(%d, %d, %d) is refused", off, v, width)
	}
}

func (x bench) read(off uint64, width int, want uint64) {
	x.t.Helper()
	if v, ok := x.b.Read(off, width); v != want || !ok {
		x.t.Errorf("Read(%d, %d) = %d, %v; want %d", off, width, v, ok, want)
	}
}

func (x bench) tick(want bool) {
	x.t.Helper()
	if got := x.b.Tick(x.m); got != want {
		x.t.Errorf("Tick: %v", got)
	}
}

func (x bench) level(want bool) {
	x.t.Helper()
	if got := x.b.Level(); got != want {
		x.t.Errorf("Level: %v", got)
	}
}

func (x bench) text(want string) {
	x.t.Helper()
	if got := x.b.Text(); got != want {
		x.t.Errorf("Text: %q, want %q", got, want)
	}
}

func (x bench) sector(n int, want string) {
	x.t.Helper()
	if s, ok := x.b.Sector(n); s != want || !ok {
		x.t.Errorf("Sector(%d) = %q, %v; want %q", n, s, ok, want)
	}
}

func noughts() string { return strings.Repeat("\x00", 64) }

func TestP16_1And2Examples(t *testing.T) {
	x := fresh(t)
	all := string(x.m.b)
	x.write(0, 3, 4)
	x.write(8, 1, 8)
	x.write(16, 2, 4)
	x.read(20, 4, 1)
	x.level(false)
	x.tick(true)
	x.read(20, 4, 2)
	x.level(true)
	x.sector(3, all[1:65])
	x.write(24, 0, 4)
	x.read(20, 4, 0)
	x.b.SetDelay(2)
	x.write(16, 1, 4)
	x.write(8, 60, 8)
	x.tick(false)
	x.tick(true)
	if string(x.m.b) != all {
		t.Error("a copy to 1, whatever Addr became")
	}
	x.write(0, 32, 4)
	x.write(16, 1, 4)
	x.tick(false)
	x.tick(true)
	x.read(20, 4, 3)
	x.write(16, 2, 4)
	x.write(16, 7, 4)
	x.read(16, 4, 2)
	x.b.Reset()
	x.text("0 0 0 0 0 2")
}

func TestP16_1New(t *testing.T) {
	x := fresh(t)
	x.text("0 0 0 0 0 0")
	x.level(false)
	x.tick(false)
	for n := range 32 {
		x.sector(n, noughts())
	}
	for _, n := range []int{-1, 32, 33, 1 << 40, -1 << 63} {
		if s, ok := x.b.Sector(n); s != "" || ok {
			t.Errorf("Sector(%d)", n)
		}
	}
}

func TestP16_1Nil(t *testing.T) {
	for name, b := range map[string]*blk.BLK{"nil": nil, "not made": {}} {
		if v, ok := b.Read(20, 4); v != 0 || ok {
			t.Errorf("%s: Read", name)
		}
		if s, ok := b.Sector(0); s != "" || ok {
			t.Errorf("%s: Sector", name)
		}
		b.SetDelay(3)
		b.Reset()
		if b.Write(16, 1, 4) || b.Tick(letters()) || b.Tick(nil) || b.Level() || b.Copy() != nil || b.Text() != "" {
			t.Errorf("%s: something is there", name)
		}
		if !blk.Same(b, nil) || !blk.Same(nil, b) || !blk.Same(b, &blk.BLK{}) || blk.Same(b, blk.New()) || blk.Same(blk.New(), b) {
			t.Errorf("%s: Same", name)
		}
	}
}

func TestP16_1Registers(t *testing.T) {
	widths := map[uint64]int{0: 4, 8: 8, 16: 4, 20: 4, 24: 4}
	for _, off := range []uint64{0, 1, 2, 4, 6, 8, 10, 12, 14, 16, 18, 20, 22, 24, 26, 28, 30, 32, 40, 1 << 32, 1<<32 + 8, 1<<64 - 4, 1<<64 - 8} {
		for _, width := range []int{0, 1, 2, 3, 4, 5, 8, 16, -4, -8, 1 << 40} {
			x := fresh(t)
			is := width != 0 && widths[off] == width
			if _, ok := x.b.Read(off, width); ok != is {
				t.Errorf("Read(%d, %d): %v", off, width, ok)
			}
			if got := x.b.Write(off, 1, width); got != is {
				t.Errorf("Write(%d, 1, %d): %v", off, width, got)
			}
			if !is && !blk.Same(x.b, blk.New()) {
				t.Errorf("Write(%d, 1, %d) did something", off, width)
			}
		}
	}
	x := fresh(t)
	all := uint64(1<<64 - 1)
	x.write(0, all-1, 4)
	x.read(0, 4, 1<<32-2)
	x.write(8, all, 8)
	x.read(8, 8, all)
	x.write(20, 7, 4)
	x.read(20, 4, 0)
	x.write(24, 7, 4)
	x.read(24, 4, 0)
	x.write(16, all-4, 4)
	x.read(16, 4, 1<<32-5)
	x.read(20, 4, 1)
	x.write(24, 7, 4) // it is busy: nothing is acknowledged
	x.read(20, 4, 1)
	x.text("4294967294 18446744073709551615 4294967291 1 1 0")
}

func TestP16_2And5Delays(t *testing.T) {
	for delay, ticks := range map[uint32]int{0: 1, 1: 1, 2: 2, 3: 3, 10: 10} {
		x := fresh(t)
		x.b.SetDelay(delay)
		x.write(8, 5, 8)
		x.write(16, 2, 4)
		x.b.SetDelay(77) // of commands that begin from then on
		for k := range ticks {
			x.text(fmt.Sprintf("0 5 2 1 %d 77", ticks-k))
			x.level(false)
			x.sector(0, noughts())
			x.tick(k == ticks-1)
		}
		x.text("0 5 2 2 0 77")
		x.level(true)
		x.sector(0, string(letters().b[5:69]))
		if x.m.asked != 1 {
			t.Errorf("delay %d: the memory was asked %d times", delay, x.m.asked)
		}
		x.tick(false)
		x.level(true)
		x.text("0 5 2 2 0 77")
	}
}

func TestP16_2Refused(t *testing.T) {
	for name, c := range map[string]struct {
		sector, addr, cmd uint64
		refuse            bool
		short             int
	}{
		"no command":                 {0, 0, 0, false, 0},
		"another command":            {0, 0, 3, false, 0},
		"a great command":            {0, 0, 1<<32 - 1, false, 0},
		"no sector, to it":           {32, 0, 2, false, 0},
		"no sector, from it":         {32, 0, 1, false, 0},
		"no great sector":            {1<<32 - 1, 0, 1, false, 0},
		"no memory, to a sector":     {1, 65, 2, false, 0},
		"no memory, from one":        {1, 65, 1, false, 0},
		"no memory far away":         {1, 1<<64 - 1, 1, false, 0},
		"a memory that refuses":      {1, 0, 2, true, 0},
		"a memory that refuses, too": {1, 0, 1, true, 0},
		"another count of bytes":     {1, 0, 2, false, 1},
	} {
		x := fresh(t)
		x.write(0, 1, 4)
		x.write(16, 2, 4)
		x.tick(true)
		before := x.b.Copy()
		x.m.refuse, x.m.short = c.refuse, c.short
		all := string(x.m.b)
		x.write(0, c.sector, 4)
		x.write(8, c.addr, 8)
		x.write(16, c.cmd, 4)
		x.tick(true)
		x.read(20, 4, 3)
		x.level(true)
		for n := range 32 {
			want, _ := before.Sector(n)
			x.sector(n, want)
		}
		if string(x.m.b) != all {
			t.Errorf("%s: something was copied", name)
		}
		x.write(24, 0, 4)
		x.read(20, 4, 0)
		x.level(false)
	}
	for cmd := range uint64(4) {
		x := fresh(t)
		x.write(16, cmd, 4)
		if !x.b.Tick(nil) || x.b.Text() != fmt.Sprintf("0 0 %d 3 0 0", cmd) {
			t.Errorf("a nil memory refuses: %q", x.b.Text())
		}
	}
}

func TestP16_2EdgesOfTheMemory(t *testing.T) {
	x := fresh(t)
	want := string(x.m.b[64:128])
	x.write(0, 31, 4)
	x.write(8, 64, 8)
	x.write(16, 2, 4)
	x.tick(true)
	x.read(20, 4, 2)
	x.sector(31, want)
	x.write(8, 0, 8)
	x.write(16, 1, 4) // without Ack: a new command begins all the same
	x.read(20, 4, 1)
	x.level(false)
	x.tick(true)
	x.read(20, 4, 2)
	if string(x.m.b) != want+want {
		t.Error("64 bytes, and no more")
	}
}

func TestP16_3Reset(t *testing.T) {
	x := fresh(t)
	x.write(0, 3, 4)
	x.write(16, 2, 4)
	x.tick(true)
	x.b.SetDelay(3)
	x.write(8, 7, 8)
	x.write(16, 1, 4)
	x.tick(false)
	x.b.Reset()
	x.text("0 0 0 0 0 3")
	x.sector(3, string(letters().b[:64]))
	for range 6 { // a command that was there never ends
		x.tick(false)
	}
	if string(x.m.b) != string(letters().b) {
		t.Error("a command that was reset copied")
	}
	x.level(false)
	x.write(16, 9, 4)
	x.tick(false)
	x.tick(false)
	x.tick(true)
	x.b.Reset()
	x.level(false)
}

func TestP16_3CopyAndSame(t *testing.T) {
	x := fresh(t)
	x.write(0, 3, 4)
	x.write(8, 1, 8)
	x.write(16, 2, 4)
	x.tick(true)
	x.write(24, 0, 4)
	c := x.b.Copy()
	if c == nil || c == x.b || !blk.Same(x.b, c) || !blk.Same(c, x.b) || c.Text() != x.b.Text() {
		t.Fatal("Copy isn't the same")
	}
	m := letters()
	for name, change := range map[string]func(b *blk.BLK){
		"Sector":             func(b *blk.BLK) { b.Write(0, 4, 4) },
		"Addr":               func(b *blk.BLK) { b.Write(8, 4, 8) },
		"a command":          func(b *blk.BLK) { b.Write(16, 1, 4) },
		"the delay":          func(b *blk.BLK) { b.SetDelay(4) },
		"a sector":           func(b *blk.BLK) { b.Write(0, 5, 4); b.Write(16, 2, 4); b.Tick(m); b.Write(24, 0, 4); b.Write(0, 3, 4) },
		"what is under way":  func(b *blk.BLK) { b.Write(0, 7, 4); b.Write(16, 2, 4); b.Write(0, 3, 4) },
		"the ticks left":     func(b *blk.BLK) { b.SetDelay(9); b.Write(16, 2, 4); b.SetDelay(0) },
		"what was commanded": func(b *blk.BLK) { b.Write(16, 6, 4); b.Tick(m); b.Write(24, 0, 4) },
		"the status":         func(b *blk.BLK) { b.Write(16, 2, 4); b.Tick(m) },
	} {
		c := x.b.Copy()
		before := x.b.Text()
		change(c)
		if blk.Same(x.b, c) || blk.Same(c, x.b) || x.b.Text() != before {
			t.Errorf("%s: a change of a copy", name)
		}
		again := x.b.Copy()
		change(again)
		if !blk.Same(again, c) {
			t.Errorf("%s: two copies that are changed alike", name)
		}
	}
	if !blk.Same(x.b, x.b) || blk.Same(x.b, blk.New()) || !blk.Same(blk.New(), blk.New()) {
		t.Error("Same")
	}
}

// TestP16_4Model: commands at any time, over a model of sectors and bytes.
func TestP16_4Model(t *testing.T) {
	n := uint64(5)
	next := func(end uint64) uint64 {
		n = n*6364136223846793005 + 1442695040888963407
		return (n >> 20) % end
	}
	x := fresh(t)
	mem := letters().b
	var sectors [34][64]byte
	var sector, addr, cmd, delay, nowS, nowA, left, status uint64
	for step := range 40000 {
		switch next(7) {
		case 0:
			sector = next(34)
			x.write(0, sector, 4)
		case 1:
			addr = next(70)
			x.write(8, addr, 8)
		case 2:
			c := next(4)
			x.write(16, c, 4)
			if status != 1 {
				cmd, status, nowS, nowA, left = c, 1, sector, addr, max(delay, 1)
			}
		case 3:
			delay = next(5)
			x.b.SetDelay(uint32(delay))
		case 4:
			if next(3) == 0 {
				x.write(24, next(3), 4)
				if status != 1 {
					status = 0
				}
			}
		case 5:
			if next(50) == 0 {
				x.b.Reset()
				sector, addr, cmd, status, left = 0, 0, 0, 0, 0
			}
		}
		ends := false
		if status == 1 {
			left--
			ends = left == 0
		}
		if ends {
			status = 3
			if nowS < 32 && nowA <= 64 && (cmd == 1 || cmd == 2) {
				status = 2
				if cmd == 1 {
					copy(mem[nowA:], sectors[nowS][:])
				} else {
					copy(sectors[nowS][:], mem[nowA:])
				}
			}
		}
		x.tick(ends)
		x.level(status >= 2)
		x.text(fmt.Sprint(sector, addr, cmd, status, left, delay))
		if step%50 == 0 {
			for n := range 32 {
				x.sector(n, string(sectors[n][:]))
			}
			if string(mem) != string(x.m.b) {
				t.Fatalf("step %d: the memory", step)
			}
		}
		if t.Failed() {
			t.Fatalf("at step %d", step)
		}
	}
}
