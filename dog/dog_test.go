package dog_test

import (
	"testing"

	"almonry/dog"
)

const greatest = 1<<32 - 1

func ticks(t *testing.T, d *dog.Dog, want ...bool) {
	t.Helper()
	for i, w := range want {
		if got := d.Tick(); got != w {
			t.Errorf("tick %d: %v, want %v", i, got, w)
		}
	}
}

func TestP17_1New(t *testing.T) {
	for _, limit := range []uint32{0, 1, 3, greatest} {
		d := dog.New(limit)
		if d == nil || d.Limit() != limit || d.Left() != limit {
			t.Errorf("New(%d): limit %d, left %d", limit, d.Limit(), d.Left())
		}
	}
	d := dog.New(5)
	ticks(t, d, false, false)
	if d.Left() != 3 || d.Limit() != 5 {
		t.Errorf("left %d, limit %d", d.Left(), d.Limit())
	}
	d.Reset()
	if d.Left() != 5 || d.Limit() != 5 {
		t.Errorf("behind Reset: left %d, limit %d", d.Left(), d.Limit())
	}
	ticks(t, d, false, false, false, false, true)
}

func TestP17_1To3Nil(t *testing.T) {
	var d *dog.Dog
	d.Reset()
	if d.Left() != 0 || d.Limit() != 0 || d.Tick() || d.Write(0, 4, 1) || d.Write(8, 8, 1) {
		t.Error("of nil: 0, false")
	}
	for _, off := range []uint64{0, 8, 16} {
		if v, ok := d.Read(off, 8); v != 0 || ok {
			t.Errorf("Read(%d)", off)
		}
	}
}

func TestP17_2Examples(t *testing.T) {
	d := dog.New(3)
	ticks(t, d, false, false)
	if d.Left() != 1 {
		t.Errorf("left %d", d.Left())
	}
	ticks(t, d, true)
	if d.Left() != 3 {
		t.Errorf("left %d", d.Left())
	}
	d = dog.New(3)
	ticks(t, d, false, false)
	if !d.Write(0, 4, 7) {
		t.Error("the kick is refused")
	}
	ticks(t, d, false, false, true)
	d = dog.New(0)
	for range 100 {
		ticks(t, d, false)
	}
	if d.Left() != 0 {
		t.Errorf("left %d", d.Left())
	}
	ticks(t, dog.New(1), true, true, true)
	d = dog.New(greatest)
	ticks(t, d, false)
	if d.Left() != greatest-1 {
		t.Errorf("left %d", d.Left())
	}
}

func TestP17_3Registers(t *testing.T) {
	is := func(off uint64, width int) bool {
		return (off == 0 || off == 8 || off == 16) && (width == 4 || width == 8)
	}
	for _, off := range []uint64{0, 1, 2, 4, 8, 9, 12, 16, 20, 24, 32, 1 << 32, 1<<32 | 8, 1 << 63, 1<<64 - 8} {
		for _, width := range []int{4, 8, 0, 1, 2, 3, 5, 16, -4, -8, 1 << 40} {
			for limit, ticked := range map[uint32]uint32{7: 2, 0: 0, greatest: 1} {
				d := dog.New(limit)
				for range ticked {
					d.Tick()
				}
				want := map[uint64]uint64{8: uint64(limit - ticked), 16: uint64(limit)}[off]
				if !is(off, width) {
					want = 0
				}
				if v, ok := d.Read(off, width); v != want || ok != is(off, width) {
					t.Errorf("Read(%d, %d) = %d, %v; want %d", off, width, v, ok, want)
				}
				for _, v := range []uint64{0, 1, 1<<64 - 1} {
					d := dog.New(limit)
					for range ticked {
						d.Tick()
					}
					left := limit - ticked
					if off == 0 && is(off, width) {
						left = limit
					}
					if got := d.Write(off, width, v); got != is(off, width) || d.Left() != left || d.Limit() != limit {
						t.Errorf("Write(%d, %d, %d) = %v, left %d", off, width, v, got, d.Left())
					}
				}
			}
		}
	}
}

func TestP17_4And5Expires(t *testing.T) {
	n := uint64(9)
	next := func(end uint64) uint64 {
		n = n*6364136223846793005 + 1442695040888963407
		return (n >> 20) % end
	}
	for _, limit := range []uint32{1, 2, 3, 7, 50} {
		d := dog.New(limit)
		since := uint32(0)
		for range 5000 {
			if next(uint64(limit)) == 0 {
				switch next(4) {
				case 0:
					d.Write(0, 8, next(9))
					since = 0
				case 1:
					d.Reset()
					since = 0
				case 2:
					d.Write(8, 8, 0)
					d.Write(16, 4, 0)
					d.Read(0, 4)
				}
			}
			since++
			expires := since == limit
			if expires {
				since = 0
			}
			if got := d.Tick(); got != expires || d.Left() != limit-since {
				t.Fatalf("limit %d: %v, left %d; want %v, %d", limit, got, d.Left(), expires, limit-since)
			}
		}
		for range 3 * limit { // a kick ahead of each such tick
			d.Write(0, 4, 0)
			if limit > 1 && d.Tick() {
				t.Fatalf("limit %d: it expires though it is kicked", limit)
			}
		}
	}
}
