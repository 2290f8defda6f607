package ram_test

import (
	"strings"
	"testing"

	"almonry/api"
	"almonry/ram"
)

func made(t *testing.T, pages int) *ram.RAM {
	t.Helper()
	m := ram.New(pages)
	if m == nil {
		t.Fatalf("New(%d) is nil", pages)
	}
	return m
}

func TestP6_1New(t *testing.T) {
	for _, pages := range []int{-1 << 63, -1, 0, 17, 18, 1 << 40, 1<<63 - 1} {
		if ram.New(pages) != nil {
			t.Errorf("New(%d) is a memory", pages)
		}
	}
	for pages := 1; pages <= 16; pages++ {
		m := made(t, pages)
		size := uint64(pages) * 4096
		if m.Size() != size {
			t.Errorf("New(%d): Size %d", pages, m.Size())
		}
		if s, e := m.Bytes(0, size); e != api.OK || s != strings.Repeat("\x00", int(size)) {
			t.Errorf("New(%d): not all bytes are 0, or %v", pages, e)
		}
		if m.Held(0, 4) || m.Held(0, 8) || m.Held(0, 0) {
			t.Errorf("New(%d): a reservation at first", pages)
		}
	}
}

func TestP6_1Nil(t *testing.T) {
	for name, m := range map[string]*ram.RAM{"nil": nil, "not made": {}} {
		if m.Size() != 0 {
			t.Errorf("%s: Size", name)
		}
		for _, width := range []int{0, 1, 2, 4, 8} {
			if v, ok := m.Read(0, width); v != 0 || ok {
				t.Errorf("%s: Read", name)
			}
			if m.Write(0, 1, width) || m.Reserve(0, width) || m.Held(0, width) {
				t.Errorf("%s: Write, Reserve or Held of %d", name, width)
			}
		}
		if e := m.Put(0, "a"); e != api.ErrNil {
			t.Errorf("%s: Put %v", name, e)
		}
		if e := m.Put(0, ""); e != api.ErrNil {
			t.Errorf("%s: Put of nothing %v", name, e)
		}
		if s, e := m.Bytes(0, 1); s != "" || e != api.ErrNil {
			t.Errorf("%s: Bytes %q, %v", name, s, e)
		}
		if s, e := m.Bytes(0, 0); s != "" || e != api.ErrNil {
			t.Errorf("%s: Bytes of none %q, %v", name, s, e)
		}
		m.Clear()
		m.Drop()
		if m.Copy() != nil {
			t.Errorf("%s: Copy", name)
		}
	}
}

func TestP6_2Examples(t *testing.T) {
	m := made(t, 1)
	if !m.Write(4, 0x11223344, 4) {
		t.Error("Write(4, .., 4)")
	}
	if v, ok := m.Read(5, 2); v != 0x2233 || !ok {
		t.Errorf("Read(5, 2) = %#x, %v", v, ok)
	}
	if v, ok := m.Read(4, 8); v != 0x11223344 || !ok {
		t.Errorf("Read(4, 8) = %#x, %v", v, ok)
	}
	if s, e := m.Bytes(4, 4); s != "\x44\x33\x22\x11" || e != api.OK {
		t.Errorf("Bytes(4, 4) = %q, %v", s, e)
	}
	if e := m.Put(4094, "abc"); e != api.ErrRange {
		t.Errorf("Put(4094, abc) = %v", e)
	}
	if v, _ := m.Read(4094, 2); v != 0 {
		t.Error("a refused Put wrote")
	}
	if e := m.Put(4096, ""); e != api.OK {
		t.Errorf("Put(4096, nothing) = %v", e)
	}
	if s, e := m.Bytes(4097, 0); s != "" || e != api.ErrRange {
		t.Errorf("Bytes(4097, 0) = %q, %v", s, e)
	}
}

func TestP6_2Edges(t *testing.T) {
	for _, pages := range []int{1, 2, 16} {
		m := made(t, pages)
		size := m.Size()
		m.Put(0, strings.Repeat("\x5a", int(size)))
		before, _ := m.Bytes(0, size)
		for _, width := range []int{1, 2, 4, 8} {
			last := size - uint64(width)
			if v, ok := m.Read(last, width); !ok || v != 0x5a5a5a5a5a5a5a5a>>(64-8*width) {
				t.Errorf("%d pages: Read(%d, %d) = %#x, %v", pages, last, width, v, ok)
			}
			for _, at := range []uint64{last + 1, size, size + 1, 1 << 32, 1 << 63, -uint64(width), 1<<64 - 1} {
				if v, ok := m.Read(at, width); v != 0 || ok {
					t.Errorf("%d pages: Read(%#x, %d) = %#x, %v", pages, at, width, v, ok)
				}
				if m.Write(at, 1, width) {
					t.Errorf("%d pages: Write(%#x, %d)", pages, at, width)
				}
			}
		}
		for _, width := range []int{-8, -1, 0, 3, 5, 6, 7, 9, 16, 64, 1 << 40} {
			if v, ok := m.Read(0, width); v != 0 || ok {
				t.Errorf("Read(0, %d) = %#x, %v", width, v, ok)
			}
			if m.Write(0, 0, width) {
				t.Errorf("Write(0, 0, %d)", width)
			}
		}
		for _, c := range []struct{ at, n uint64 }{{size, 1}, {size + 1, 0}, {0, size + 1}, {1, size}, {1, 1<<64 - 1}, {1<<64 - 1, 1}, {1<<64 - 1, 2}, {1<<64 - 1, 0}, {0, 1<<64 - 1}} {
			if s, e := m.Bytes(c.at, c.n); s != "" || e != api.ErrRange {
				t.Errorf("Bytes(%#x, %#x): %v", c.at, c.n, e)
			}
		}
		for _, at := range []uint64{size - 1, size, size + 1, 1<<64 - 1, 1<<64 - 2} {
			if e := m.Put(at, "ab"); e != api.ErrRange {
				t.Errorf("Put(%#x, ab): %v", at, e)
			}
		}
		if e := m.Put(size+1, ""); e != api.ErrRange {
			t.Errorf("Put behind the end, of nothing: %v", e)
		}
		if s, e := m.Bytes(size, 0); s != "" || e != api.OK {
			t.Errorf("Bytes at the end, of none: %v", e)
		}
		if after, _ := m.Bytes(0, size); after != before {
			t.Errorf("%d pages: something that was refused wrote", pages)
		}
	}
}

func TestP6_2Clear(t *testing.T) {
	m := made(t, 2)
	m.Put(0, strings.Repeat("x", 8192))
	m.Reserve(8, 8)
	m.Clear()
	if s, _ := m.Bytes(0, 8192); s != strings.Repeat("\x00", 8192) {
		t.Error("Clear: not all bytes are 0")
	}
	if m.Held(8, 8) {
		t.Error("Clear writes each byte, so it ends a reservation")
	}
}

func TestP6_2BytesAreNew(t *testing.T) {
	m := made(t, 1)
	m.Put(0, "abc")
	s, _ := m.Bytes(0, 3)
	m.Put(0, "xyz")
	if s != "abc" {
		t.Errorf("what was told became %q", s)
	}
}

func TestP6_3Reserve(t *testing.T) {
	m := made(t, 1)
	for _, c := range []struct {
		at    uint64
		width int
		want  bool
	}{
		{0, 4, true}, {0, 8, true}, {4, 4, true}, {4, 8, false}, {8, 8, true}, {12, 8, false}, {12, 4, true}, {1, 4, false}, {2, 4, false}, {6, 4, false}, {1, 8, false},
		{0, 0, false}, {0, 1, false}, {0, 2, false}, {0, 3, false}, {0, 16, false}, {0, -4, false}, {0, -8, false}, {8, 12, false},
		{4092, 4, true}, {4088, 8, true}, {4096, 4, false}, {4096, 8, false}, {4092, 8, false}, {1<<64 - 8, 8, false}, {1<<64 - 4, 4, false}, {1 << 32, 4, false},
	} {
		m.Drop()
		if got := m.Reserve(c.at, c.width); got != c.want || m.Held(c.at, c.width) != c.want {
			t.Errorf("Reserve(%#x, %d) = %v, held %v; want %v", c.at, c.width, got, m.Held(c.at, c.width), c.want)
		}
	}
	m.Reserve(8, 8)
	if m.Held(8, 4) || m.Held(12, 4) || m.Held(0, 8) || m.Held(16, 8) || m.Held(8, 0) || m.Held(8, 7) || m.Held(9, 8) {
		t.Error("held of another offset or width")
	}
	if m.Reserve(12, 8) || !m.Held(8, 8) {
		t.Error("a Reserve that is refused leaves the one that there was")
	}
	if !m.Reserve(4, 4) || m.Held(8, 8) || !m.Held(4, 4) {
		t.Error("another Reserve is the reservation")
	}
	m.Drop()
	if m.Held(4, 4) || m.Held(0, 0) {
		t.Error("Drop: there is none")
	}
}

func TestP6_3Examples(t *testing.T) {
	m := made(t, 1)
	if !m.Reserve(8, 8) || !m.Write(16, 1, 1) || !m.Held(8, 8) || m.Held(8, 4) {
		t.Error("a write beside it leaves it")
	}
	if !m.Write(15, 0, 1) || m.Held(8, 8) {
		t.Error("a write of its last byte ends it")
	}
	if m.Reserve(12, 8) || !m.Reserve(4, 4) || !m.Held(4, 4) || !m.Write(3, 0, 1) || m.Held(4, 4) {
		t.Error("its eight bytes begin at a multiple of 8")
	}
}

func TestP6_4CopyAndSame(t *testing.T) {
	m := made(t, 1)
	m.Write(100, 0x1234, 2)
	m.Reserve(8, 8)
	c := m.Copy()
	if c == nil || c == m || !ram.Same(m, c) || !ram.Same(c, m) || !c.Held(8, 8) || c.Size() != 4096 {
		t.Fatal("Copy isn't the same")
	}
	c.Write(100, 0, 1)
	if v, _ := m.Read(100, 2); v != 0x1234 || ram.Same(m, c) {
		t.Error("a copy is of its own")
	}
	m.Write(100, 0, 1)
	if !ram.Same(m, c) {
		t.Error("the same bytes again")
	}
	c.Drop()
	if !m.Held(8, 8) || ram.Same(m, c) {
		t.Error("a reservation on one side alone")
	}
	c.Reserve(8, 4)
	if ram.Same(m, c) {
		t.Error("a reservation of another width")
	}
	c.Reserve(16, 8)
	if ram.Same(m, c) {
		t.Error("a reservation of another offset")
	}
	m.Drop()
	c.Drop()
	if !ram.Same(m, c) {
		t.Error("no reservation on both sides")
	}
	m.Write(4095, 1, 1)
	if ram.Same(m, c) {
		t.Error("the last byte is another one")
	}
	if !ram.Same(nil, nil) || ram.Same(nil, m) || ram.Same(m, nil) || !ram.Same(m, m) {
		t.Error("nil is the same as nil alone")
	}
	if ram.Same(made(t, 1), made(t, 2)) {
		t.Error("memories of other sizes")
	}
	d := made(t, 1)
	d.Reserve(0, 8)
	d.Drop()
	if !ram.Same(d, made(t, 1)) {
		t.Error("a reservation that was dropped left something")
	}
	d.Reserve(64, 8)
	d.Write(64, 0, 1)
	if !ram.Same(d, made(t, 1)) {
		t.Error("a reservation that was ended left something")
	}
}

// model is bytes, and a reservation.
type model struct {
	b     [4096]byte
	at    uint64
	width int
}

func (m *model) write(at uint64, b byte) {
	m.b[at] = b
	if at/8 == m.at/8 {
		m.width = 0
	}
}

func TestP6_5And6Model(t *testing.T) {
	m, want := made(t, 1), &model{}
	n := uint64(42)
	next := func(end uint64) uint64 {
		n = n*6364136223846793005 + 1442695040888963407
		return (n >> 20) % end
	}
	widths := []int{1, 2, 4, 8}
	for i := range 40000 {
		at, width := next(64), widths[next(4)]
		if next(8) == 0 {
			at = 4096 - 16 + next(20)
		}
		there := at+uint64(width) <= 4096
		switch next(7) {
		case 0, 1:
			v := next(1<<40) * 0x1000193
			if m.Write(at, v, width) != there {
				t.Fatalf("Write(%d, .., %d)", at, width)
			}
			for k := range width {
				if there {
					want.write(at+uint64(k), byte(v>>(8*k)))
				}
			}
		case 2:
			s := strings.Repeat("q", int(next(12)))
			e := m.Put(at, s)
			if ok := at+uint64(len(s)) <= 4096; ok != (e == api.OK) {
				t.Fatalf("Put(%d, %d bytes): %v", at, len(s), e)
			}
			for k := range len(s) {
				if e == api.OK {
					want.write(at+uint64(k), 'q')
				}
			}
		case 3, 4:
			ok := there && width >= 4 && at%uint64(width) == 0
			if m.Reserve(at, width) != ok {
				t.Fatalf("Reserve(%d, %d)", at, width)
			}
			if ok {
				want.at, want.width = at, width
			}
		case 5:
			if next(10) == 0 {
				m.Drop()
				want.width = 0
			}
		}
		v, ok := m.Read(at, width)
		var w uint64
		for k := range width {
			if there {
				w |= uint64(want.b[at+uint64(k)]) << (8 * k)
			}
		}
		if v != w || ok != there {
			t.Fatalf("step %d: Read(%d, %d) = %#x, %v; want %#x, %v", i, at, width, v, ok, w, there)
		}
		held := want.width != 0
		if held != m.Held(want.at, want.width) || m.Held(at, width) != (held && at == want.at && width == want.width) {
			t.Fatalf("step %d: held of %d, %d", i, want.at, want.width)
		}
	}
	if s, _ := m.Bytes(0, 4096); s != string(want.b[:]) {
		t.Error("the bytes at the end")
	}
}
