package pmp_test

import (
	"testing"

	"almonry/api"
	"almonry/pmp"
)

type addrs = [api.Entries]uint64

type random uint64

func (r *random) below(n uint64) uint64 {
	*r = *r*6364136223846793005 + 1442695040888963407
	return uint64(*r>>20) % n
}

// in tells whether a byte is in an entry's range, out of the chapter's words.
func in(cfg uint64, addr addrs, i int, at uint64) bool {
	own := addr[i] & (1<<54 - 1)
	word := at / 4
	switch cfg >> (8*i + 3) & 3 {
	case 1:
		from := uint64(0)
		if i > 0 {
			from = addr[i-1] & (1<<54 - 1)
		}
		return word >= from && word < own
	case 2:
		return word == own
	case 3:
		var ones uint
		for ones < 54 && own>>ones&1 == 1 {
			ones++
		}
		return word>>(ones+1) == own>>(ones+1)
	}
	return false
}

func model(cfg uint64, addr addrs, x pmp.Access) (int, bool) {
	for i := range 8 {
		some, all := false, true
		for k := range uint64(max(x.Width, 1)) {
			if in(cfg, addr, i, x.At+k) {
				some = true
			} else {
				all = false
			}
		}
		if some {
			return i, all
		}
	}
	return -1, false
}

func allowed(cfg uint64, addr addrs, x pmp.Access) bool {
	i, all := model(cfg, addr, x)
	if i < 0 {
		return x.Mode == 3
	}
	b := cfg >> (8 * i)
	if !all || x.Mode == 3 && b&0x80 == 0 {
		return all
	}
	bit := map[uint8]uint64{api.Load: 1, api.Store: 2, api.Fetch: 4}[x.Kind]
	return b&bit != 0
}

// example is the chapter's.
const exampleCfg = 0x09 | 0x13<<8 | 0x9c<<16

var exampleAddr = addrs{0x1000, 0x1001, 0x2001}

func TestP9_1Example(t *testing.T) {
	want := [][3]uint64{{0, 0x3fff, 1}, {0x4004, 0x4007, 1}, {0x8000, 0x800f, 1}, {0, 0, 0}}
	for i, w := range want {
		first, last, ok := pmp.Range(exampleCfg, exampleAddr, i)
		if first != w[0] || last != w[1] || ok != (w[2] == 1) {
			t.Errorf("Range(%d) = %#x to %#x, %v; want %#x", i, first, last, ok, w)
		}
	}
}

func TestP9_1Range(t *testing.T) {
	all := uint64(1<<64 - 1)
	cases := []struct {
		name        string
		cfg         uint64
		addr        addrs
		i           int
		first, last uint64
		ok          bool
	}{
		{"OFF", 0x07, addrs{5}, 0, 0, 0, false},
		{"TOR of entry 0", 0x08, addrs{5}, 0, 0, 19, true},
		{"TOR of entry 0, empty", 0x08, addrs{0}, 0, 0, 0, false},
		{"TOR from one that is OFF", 0x0800, addrs{3, 5}, 1, 12, 19, true},
		{"TOR from a NAPOT", 0x0818, addrs{3, 5}, 1, 12, 19, true},
		{"TOR, empty", 0x0800, addrs{5, 5}, 1, 0, 0, false},
		{"TOR, below", 0x0800, addrs{6, 5}, 1, 0, 0, false},
		{"TOR of entry 7", 0x08 << 56, addrs{6: 1, 7: 2}, 7, 4, 7, true},
		{"TOR to the end", 0x08, addrs{1<<54 - 1}, 0, 0, 1<<56 - 5, true},
		{"TOR, higher bits", 0x0800, addrs{1<<63 | 3, 1<<54 | 5}, 1, 12, 19, true},
		{"TOR, empty but for higher bits", 0x0800, addrs{5, 1<<54 | 5}, 1, 0, 0, false},
		{"NA4", 0x10, addrs{5}, 0, 20, 23, true},
		{"NA4 at 0", 0x10, addrs{0}, 0, 0, 3, true},
		{"NA4, higher bits", 0x10, addrs{all << 54}, 0, 0, 3, true},
		{"NA4, the last one", 0x10, addrs{1<<54 - 1}, 0, 1<<56 - 4, 1<<56 - 1, true},
		{"NAPOT without ones", 0x18, addrs{4}, 0, 16, 23, true},
		{"NAPOT of one", 0x18, addrs{5}, 0, 16, 31, true},
		{"NAPOT of two", 0x18, addrs{3}, 0, 0, 31, true},
		{"NAPOT of two above", 0x18, addrs{8 + 3}, 0, 32, 63, true},
		{"NAPOT of 53", 0x18, addrs{1<<53 - 1}, 0, 0, 1<<56 - 1, true},
		{"NAPOT of 54", 0x18, addrs{1<<54 - 1}, 0, 0, 1<<57 - 1, true},
		{"NAPOT of 54, higher bits", 0x18, addrs{all}, 0, 0, 1<<57 - 1, true},
		{"NAPOT of 52 above", 0x18, addrs{1<<53 | 1<<52 - 1}, 0, 1 << 55, 1<<55 + 1<<55 - 1, true},
		{"other bits of the byte", 0xf7, addrs{5}, 0, 20, 23, true},
		{"no entry", all, addrs{1, 2, 3, 4, 5, 6, 7, 8}, 8, 0, 0, false},
		{"no entry below", all, addrs{1, 2, 3, 4, 5, 6, 7, 8}, -1, 0, 0, false},
		{"no entry at all", all, addrs{1, 2, 3, 4, 5, 6, 7, 8}, -1 << 63, 0, 0, false},
	}
	for _, c := range cases {
		first, last, ok := pmp.Range(c.cfg, c.addr, c.i)
		if first != c.first || last != c.last || ok != c.ok {
			t.Errorf("%s: %#x to %#x, %v; want %#x to %#x, %v", c.name, first, last, ok, c.first, c.last, c.ok)
		}
	}
}

func TestP9_3Examples(t *testing.T) {
	for _, c := range []struct {
		x    pmp.Access
		want bool
	}{
		{pmp.Access{Mode: 1, Kind: api.Load, At: 0x3ffc, Width: 4}, true},
		{pmp.Access{Mode: 1, Kind: api.Load, At: 0x3ffe, Width: 4}, false},
		{pmp.Access{Mode: 1, Kind: api.Load, At: 0x4000, Width: 4}, false},
		{pmp.Access{Mode: 0, Kind: api.Store, At: 0x4004, Width: 4}, true},
		{pmp.Access{Mode: 1, Kind: api.Store, At: 0x4004, Width: 8}, false},
		{pmp.Access{Mode: 3, Kind: api.Fetch, At: 0x8000, Width: 2}, true},
		{pmp.Access{Mode: 3, Kind: api.Load, At: 0x8000, Width: 1}, false},
		{pmp.Access{Mode: 3, Kind: api.Load, At: 0x9000, Width: 4}, true},
		{pmp.Access{Mode: 3, Kind: api.Load, At: 0x3ffe, Width: 4}, false},
		{pmp.Access{Mode: 3, Kind: api.Store, At: 0x0000, Width: 8}, true},
		{pmp.Access{Mode: 1, Kind: api.Store, At: 0x0000, Width: 8}, false},
	} {
		if got := pmp.Check(exampleCfg, exampleAddr, c.x); got != c.want {
			t.Errorf("Check of %+v: %v, want %v", c.x, got, c.want)
		}
	}
}

func someEntries(r *random) (uint64, addrs) {
	var cfg uint64
	var addr addrs
	for i := range 8 {
		b := r.below(256)
		if r.below(3) == 0 {
			b &= 0xe7
		}
		cfg |= b << (8 * i)
		addr[i] = r.below(24)
		if r.below(10) == 0 {
			addr[i] |= 1 << 54
		}
		if r.below(40) == 0 {
			addr[i] = 1<<54 - 1
		}
	}
	return cfg, addr
}

func TestP9_2And3Model(t *testing.T) {
	r := random(3)
	widths := []int{1, 2, 4, 8, 0, -1, -1 << 63, 3, 16, 40}
	for range 4000 {
		cfg, addr := someEntries(&r)
		for range 30 {
			x := pmp.Access{Mode: uint8(r.below(4)), Kind: uint8(r.below(3)), At: r.below(110), Width: widths[r.below(uint64(len(widths)))]}
			i, whole := model(cfg, addr, x)
			if gotI, gotW := pmp.First(cfg, addr, x); gotI != i || gotW != whole {
				t.Fatalf("First(%#x, %v, %+v) = %d, %v; want %d, %v", cfg, addr, x, gotI, gotW, i, whole)
			}
			if got, want := pmp.Check(cfg, addr, x), allowed(cfg, addr, x); got != want {
				t.Fatalf("Check(%#x, %v, %+v) = %v; want %v", cfg, addr, x, got, want)
			}
		}
	}
}

func TestP9_1RangeHasItsBytes(t *testing.T) { // P9.6, too
	r := random(5)
	for range 3000 {
		cfg, addr := someEntries(&r)
		for i := range 8 {
			first, last, ok := pmp.Range(cfg, addr, i)
			for at := range uint64(130) {
				if got := ok && first <= at && at <= last; got != in(cfg, addr, i, at) {
					t.Fatalf("Range(%#x, %v, %d) = %#x to %#x, %v: byte %#x", cfg, addr, i, first, last, ok, at)
				}
			}
			if ok && (first%4 != 0 || last < first || cfg>>(8*i+3)&3 == 3 && first%(last-first+1) != 0) {
				t.Fatalf("Range(%#x, %v, %d) = %#x to %#x", cfg, addr, i, first, last)
			}
		}
	}
}

func TestP9_3TheEndOfAddresses(t *testing.T) {
	all := uint64(1<<64 - 1)
	wide := addrs{1<<54 - 1}
	for _, c := range []struct {
		cfg  uint64
		addr addrs
		x    pmp.Access
		want bool
	}{
		{0, addrs{}, pmp.Access{Mode: 3, Kind: api.Load, At: all, Width: 1}, true},
		{0, addrs{}, pmp.Access{Mode: 3, Kind: api.Load, At: all, Width: 2}, false},
		{0, addrs{}, pmp.Access{Mode: 3, Kind: api.Load, At: all - 7, Width: 8}, true},
		{0, addrs{}, pmp.Access{Mode: 3, Kind: api.Load, At: all - 6, Width: 8}, false},
		{0, addrs{}, pmp.Access{Mode: 1, Kind: api.Load, At: all - 7, Width: 8}, false},
		{0x1f, wide, pmp.Access{Mode: 3, Kind: api.Load, At: all - 6, Width: 8}, false},
		{0x1f, wide, pmp.Access{Mode: 1, Kind: api.Load, At: 1<<57 - 8, Width: 8}, true},
		{0x1f, wide, pmp.Access{Mode: 1, Kind: api.Load, At: 1<<57 - 7, Width: 8}, false},
		{0x1f, wide, pmp.Access{Mode: 3, Kind: api.Load, At: 1<<57 - 7, Width: 8}, false},
		{0x1f, wide, pmp.Access{Mode: 1, Kind: api.Load, At: 1 << 57, Width: 8}, false},
		{0x1f, wide, pmp.Access{Mode: 3, Kind: api.Load, At: 1 << 57, Width: 8}, true},
		{0, addrs{}, pmp.Access{Mode: 3, Kind: api.Load, At: 1, Width: 1<<63 - 1}, true},
		{0, addrs{}, pmp.Access{Mode: 3, Kind: api.Load, At: 1<<63 + 2, Width: 1<<63 - 1}, false},
	} {
		if got := pmp.Check(c.cfg, c.addr, c.x); got != c.want {
			t.Errorf("Check(%#x, %+v) = %v, want %v", c.cfg, c.x, got, c.want)
		}
	}
}

func TestP9_3OtherKindsAndModes(t *testing.T) {
	for _, kind := range []uint8{3, 4, 255} {
		if pmp.Check(0x1f, addrs{1<<54 - 1}, pmp.Access{Mode: 1, Kind: kind, At: 16, Width: 4}) {
			t.Errorf("kind %d is allowed to S", kind)
		}
		if pmp.Check(0x9f, addrs{1<<54 - 1}, pmp.Access{Mode: 3, Kind: kind, At: 16, Width: 4}) {
			t.Errorf("kind %d is allowed to M by a locked entry", kind)
		}
	}
	if pmp.Check(0, addrs{}, pmp.Access{Mode: 2, Kind: api.Load, At: 16, Width: 4}) || !pmp.Check(0x19, addrs{1<<54 - 1}, pmp.Access{Mode: 2, Kind: api.Load, At: 16, Width: 4}) {
		t.Error("a mode of 2 is as S")
	}
}

func TestP9_4FirstAloneCounts(t *testing.T) {
	r := random(9)
	for range 3000 {
		cfg, addr := someEntries(&r)
		x := pmp.Access{Mode: uint8(r.below(4)), Kind: uint8(r.below(3)), At: r.below(100), Width: 1 << r.below(4)}
		got := pmp.Check(cfg, addr, x)
		i, whole := pmp.First(cfg, addr, x)
		if i >= 0 && i < 7 {
			other := addr
			for k := i + 1; k < 8; k++ {
				other[k] = r.below(50)
			}
			cfg2 := cfg&(1<<(8*i+8)-1) | r.below(1<<40)<<(8*i+8)
			if i2, whole2 := pmp.First(cfg2, other, x); i2 != i || whole2 != whole || pmp.Check(cfg2, other, x) != got {
				t.Fatalf("entries behind %d make a difference", i)
			}
		}
		each, meets := true, map[int]bool{}
		for k := range x.Width {
			y := x
			y.At, y.Width = x.At+uint64(k), 1
			each = each && pmp.Check(cfg, addr, y)
			j, _ := pmp.First(cfg, addr, y)
			meets[j] = true
		}
		if got && !each {
			t.Fatalf("%+v is allowed, but not byte by byte", x)
		}
		if !got && each && len(meets) < 2 {
			t.Fatalf("%+v is refused, though each byte is allowed, and all meet one", x)
		}
	}
}

func TestP9_5MWithoutL(t *testing.T) {
	r := random(13)
	for range 5000 {
		cfg, addr := someEntries(&r)
		x := pmp.Access{Kind: uint8(r.below(3)), At: r.below(100), Width: 1 << r.below(4)}
		u := pmp.Check(cfg, addr, x)
		x.Mode = 1
		s := pmp.Check(cfg, addr, x)
		x.Mode = 3
		m := pmp.Check(cfg, addr, x)
		if u != s || s && !m {
			t.Fatalf("U %v, S %v, M %v", u, s, m)
		}
		free := cfg &^ 0x8080808080808080
		i, whole := pmp.First(free, addr, x)
		if pmp.Check(free, addr, x) != (i < 0 || whole) {
			t.Fatalf("M without L: %+v, entry %d, whole %v", x, i, whole)
		}
	}
}
