package clint_test

import (
	"testing"

	"almonry/clint"
)

const (
	msip     = 0x0000
	mtimecmp = 0x4000
	mtime    = 0xbff8
	all      = uint64(1<<64 - 1)
)

func TestP13_1New(t *testing.T) {
	c := clint.New()
	if c == nil || *c != (clint.Clint{Msip: 0, Mtimecmp: all, Mtime: 0}) {
		t.Fatalf("New: %+v", c)
	}
	if c.Bits() != 0 {
		t.Errorf("Bits: %#x", c.Bits())
	}
}

func TestP13_1And2Examples(t *testing.T) {
	c := clint.New()
	read := func(off uint64, width int, want uint64, is bool) {
		t.Helper()
		if v, ok := c.Read(off, width); v != want || ok != is {
			t.Errorf("Read(%#x, %d) = %#x, %v; want %#x, %v", off, width, v, ok, want, is)
		}
	}
	read(mtime, 8, 0, true)
	c.Tick()
	read(mtime, 4, 1, true)
	if !c.Write(mtimecmp, 8, 2) || c.Bits() != 0 {
		t.Errorf("ahead of the time: %#x", c.Bits())
	}
	c.Tick()
	if c.Bits() != 1<<7 {
		t.Errorf("at the time: %#x", c.Bits())
	}
	if !c.Write(msip, 4, 3) || c.Bits() != 1<<7|1<<3 {
		t.Errorf("Write of MSIP: %#x", c.Bits())
	}
	read(msip, 4, 1, true)
	if !c.Write(mtimecmp+4, 4, 1) {
		t.Error("Write of the upper half")
	}
	read(mtimecmp, 8, 1<<32+2, true)
	read(mtimecmp+2, 4, 0, false)
	read(mtimecmp+6, 4, 0, false)
	read(8, 4, 0, false)
}

// registers are where their bytes stand.
func where(off uint64) (reg int, at uint64, ok bool) {
	switch {
	case off < 4:
		return 0, off, true
	case off >= mtimecmp && off < mtimecmp+8:
		return 1, off - mtimecmp, true
	case off >= mtime && off < mtime+8:
		return 2, off - mtime, true
	}
	return 0, 0, false
}

func is(off uint64, width int) (reg int, at uint64, ok bool) {
	if width != 1 && width != 2 && width != 4 && width != 8 || off%uint64(width) != 0 {
		return 0, 0, false
	}
	reg, at, ok = where(off)
	for k := range uint64(width) { // at most 8
		r, _, there := where(off + k)
		ok = ok && there && r == reg
	}
	return reg, at, ok
}

func TestP13_1And3Model(t *testing.T) {
	n := uint64(1)
	next := func() uint64 {
		n ^= n << 13
		n ^= n >> 7
		n ^= n << 17
		return n
	}
	var offs []uint64
	for _, base := range []uint64{0, mtimecmp, mtime} {
		for d := range uint64(26) {
			offs = append(offs, base+d-9)
		}
	}
	offs = append(offs, 0xc000, 0xbff0, 1<<32, 1<<63, all, all-7, 1<<32|mtime)
	widths := []int{1, 2, 4, 8, 0, 3, 5, 16, -1, -8, 1 << 40, -1 << 63}
	c := clint.New()
	want := [3]uint64{0, all, 0}
	for range 20 {
		for _, off := range offs {
			for _, width := range widths {
				v := next()
				reg, at, ok := is(off, width)
				if got := c.Write(off, width, v); got != ok {
					t.Fatalf("Write(%#x, %d) = %v", off, width, got)
				}
				for k := 0; ok && k < width; k++ {
					shift := 8 * (at + uint64(k))
					want[reg] = want[reg]&^(255<<shift) | v>>(8*k)&255<<shift
				}
				want[0] &= 1
				if got := [3]uint64{c.Msip, c.Mtimecmp, c.Mtime}; got != want {
					t.Fatalf("behind Write(%#x, %d, %#x): %#x, want %#x", off, width, v, got, want)
				}
				off2, width2 := offs[next()%uint64(len(offs))], widths[next()%4]
				reg, at, ok = is(off2, width2)
				var w uint64
				for k := 0; ok && k < width2; k++ {
					w |= want[reg] >> (8 * (at + uint64(k))) & 255 << (8 * k)
				}
				if got, is := c.Read(off2, width2); got != w || is != ok {
					t.Fatalf("Read(%#x, %d) = %#x, %v; want %#x, %v", off2, width2, got, is, w, ok)
				}
			}
		}
	}
	for _, width := range widths[4:] {
		if v, ok := c.Read(mtime, width); v != 0 || ok {
			t.Errorf("Read of width %d: %#x, %v", width, v, ok)
		}
	}
}

func TestP13_2TickAndBits(t *testing.T) {
	for _, c := range []struct {
		x    clint.Clint
		bits uint64
	}{
		{clint.Clint{}, 1 << 7}, {clint.Clint{Mtimecmp: 1}, 0}, {clint.Clint{Msip: 1, Mtimecmp: 1}, 1 << 3}, {clint.Clint{Msip: 1}, 1<<3 | 1<<7},
		{clint.Clint{Mtimecmp: 5, Mtime: 5}, 1 << 7}, {clint.Clint{Mtimecmp: 5, Mtime: 4}, 0}, {clint.Clint{Mtimecmp: all, Mtime: all}, 1 << 7}, {clint.Clint{Mtimecmp: all, Mtime: all - 1}, 0},
		{clint.Clint{Mtimecmp: 1, Mtime: all}, 1 << 7}, {clint.Clint{Mtimecmp: 1 << 63, Mtime: 1}, 0},
	} {
		x := c.x
		if got := x.Bits(); got != c.bits || x != c.x {
			t.Errorf("Bits of %+v: %#x, want %#x", c.x, got, c.bits)
		}
		x.Tick()
		c.x.Mtime++
		if x != c.x {
			t.Errorf("Tick: %+v, want %+v", x, c.x)
		}
	}
	x := clint.Clint{Mtime: all}
	if x.Tick(); x.Mtime != 0 {
		t.Errorf("the time goes round: %d", x.Mtime)
	}
}

func TestP13_2Nil(t *testing.T) {
	var c *clint.Clint
	if v, ok := c.Read(mtime, 8); v != 0 || ok {
		t.Error("Read")
	}
	if c.Write(mtime, 8, 1) || c.Bits() != 0 {
		t.Error("Write, Bits")
	}
	c.Tick()
}

func TestP13_4Timer(t *testing.T) {
	c := clint.New()
	c.Write(mtimecmp, 8, 50)
	for now := range uint64(200) {
		if got := c.Bits() == 1<<7; got != (now >= 50) {
			t.Fatalf("at %d: %#x", now, c.Bits())
		}
		c.Tick()
	}
}
