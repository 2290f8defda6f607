package uart_test

import (
	"strings"
	"testing"

	"almonry/uart"
)

type bench struct {
	t *testing.T
	u *uart.Uart
}

func fresh(t *testing.T) bench { return bench{t, uart.New()} }

func (b bench) read(off, want uint64) {
	b.t.Helper()
	if v, ok := b.u.Read(off, 1); v != want || !ok {
		b.t.Errorf("Read(%d) = %#x, %v; want %#x", off, v, ok, want)
	}
}

func (b bench) write(off, v uint64) {
	b.t.Helper()
	if !b.u.Write(off, 1, v) {
		b.t.Errorf("Write(%d, %#x) is refused", off, v)
	}
}

func (b bench) input(c byte, want bool) {
	b.t.Helper()
	if b.u.Input(c) != want {
		b.t.Errorf("Input(%q) = %v", c, !want)
	}
}

func (b bench) level(want bool) {
	b.t.Helper()
	if b.u.Level() != want {
		b.t.Errorf("Level is %v", !want)
	}
}

func (b bench) take(want string) {
	b.t.Helper()
	if s := b.u.Take(); s != want {
		b.t.Errorf("Take: %q, want %q", s, want)
	}
}

func (b bench) dump(want string) {
	b.t.Helper()
	if s := b.u.Dump(); s != want {
		b.t.Errorf("Dump: %q, want %q", s, want)
	}
}

func TestP15_1New(t *testing.T) {
	b := fresh(t)
	b.dump("\x00\x00\x00\x00\x00\x00\x00\x00\x00")
	b.level(false)
	b.take("")
	if b.u.Waiting() != 0 {
		t.Error("Waiting")
	}
	for off, want := range []uint64{0, 0, 1, 0, 0, 0x60, 0, 0} {
		b.read(uint64(off), want)
	}
}

func TestP15_1NoAccess(t *testing.T) {
	u := uart.New()
	u.Input('a')
	u.Write(1, 1, 7)
	before := u.Dump()
	for _, off := range []uint64{8, 9, 256, 1 << 32, 1<<64 - 1} {
		if v, ok := u.Read(off, 1); v != 0 || ok {
			t.Errorf("Read(%#x, 1)", off)
		}
		if u.Write(off, 1, 65) {
			t.Errorf("Write(%#x, 1)", off)
		}
	}
	for _, width := range []int{0, 2, 4, 8, -1, 3, 1 << 40} {
		for off := range uint64(8) {
			if v, ok := u.Read(off, width); v != 0 || ok {
				t.Errorf("Read(%d, %d)", off, width)
			}
			if u.Write(off, width, 65) {
				t.Errorf("Write(%d, %d)", off, width)
			}
		}
	}
	if u.Dump() != before || u.Take() != "" {
		t.Errorf("%q became %q", before, u.Dump())
	}
}

func TestP15_1To3Nil(t *testing.T) {
	var u *uart.Uart
	if v, ok := u.Read(5, 1); v != 0 || ok {
		t.Error("Read")
	}
	if u.Write(0, 1, 65) || u.Input('a') || u.Level() || u.Take() != "" || u.Waiting() != 0 || u.Dump() != "" {
		t.Error("of nil: false, nothing, 0")
	}
}

func TestP15_1Kept(t *testing.T) {
	b := fresh(t)
	b.write(1, 0x1fd) // the lowest byte alone, of which bits 0 to 3 are kept
	b.read(1, 0x0d)
	b.write(4, 0xff)
	b.read(4, 0x1f)
	b.write(7, 0x1a5)
	b.read(7, 0xa5)
	b.write(5, 0xff)
	b.write(6, 0xff)
	b.read(5, 0x60)
	b.read(6, 0)
	b.write(3, 0x7f)
	b.read(3, 0x7f)
	b.dump("\x0d\x00\x7f\x1f\xa5\x00\x00\x00\x00")
	b.write(3, 0xff)
	b.read(3, 0xff)
	b.write(0, 0x12)
	b.write(1, 0xfe)
	b.read(0, 0x12)
	b.read(1, 0xfe)
	b.take("")
	b.dump("\x0d\x00\xff\x1f\xa5\x12\xfe\x00\x00")
	b.write(3, 0x00)
	b.read(1, 0x0d)
	b.dump("\x0d\x00\x00\x1f\xa5\x12\xfe\x00\x00")
}

func TestP15_1And2Examples(t *testing.T) {
	b := fresh(t)
	b.read(5, 0x60)
	b.input('a', true)
	b.input('b', true)
	b.read(5, 0x61)
	b.read(0, 'a')
	b.read(0, 'b')
	b.read(0, 0)

	b = fresh(t)
	b.write(1, 1)
	b.input('a', true)
	b.level(true)
	b.read(2, 4)
	b.read(0, 'a')
	b.level(false)

	b = fresh(t)
	for i := range 17 {
		b.input('x', i < 16)
	}
	b.read(5, 0x63)
	b.read(5, 0x61)

	b = fresh(t)
	b.write(0, 'x')
	b.take("x")
	b.take("")
	b.write(1, 2)
	b.read(2, 2)
	b.read(2, 1)

	b = fresh(t)
	b.write(3, 0x80)
	b.write(0, 5)
	b.take("")
	b.read(0, 5)
	b.write(3, 0)
	b.read(0, 0)
}

func TestP15_1DlabLeavesTheQueue(t *testing.T) {
	b := fresh(t)
	b.input('a', true)
	b.write(3, 0x80)
	b.read(0, 0)
	b.read(1, 0)
	if b.u.Waiting() != 1 {
		t.Error("a read of DLL took a byte")
	}
	b.write(3, 0x7f)
	b.read(0, 'a')
}

func TestP15_2Asked(t *testing.T) {
	b := fresh(t)
	for range 17 {
		b.u.Input('q')
	}
	b.write(0, 'x') // Over, a byte and Done
	b.level(false)
	b.read(2, 1)
	for _, c := range []struct{ ier, iir uint64 }{{4, 6}, {5, 6}, {7, 6}, {1, 4}, {3, 4}, {8, 1}} {
		b.write(1, c.ier)
		b.level(c.iir != 1)
		b.read(2, c.iir)
		b.read(2, c.iir)
	}
	b.write(1, 7)
	b.write(2, 1)
	b.read(2, 0xc6)
	b.read(5, 0x63) // takes Over back
	b.read(2, 0xc4)
	b.write(2, 3) // empties the queue
	b.read(2, 0xc2)
	b.level(false)
	b.read(2, 0xc1)
	b.write(2, 0)
	b.read(2, 1)
}

func TestP15_2DoneWhenBit1Becomes1(t *testing.T) {
	b := fresh(t)
	b.write(1, 2)
	b.level(true)
	b.read(2, 2)
	b.level(false)
	b.write(1, 2) // it is 1 already
	b.level(false)
	b.write(1, 3)
	b.level(false)
	b.write(1, 0)
	b.level(false)
	b.write(1, 2)
	b.level(true)
	b.write(1, 0)
	b.level(false)
	b.read(2, 1) // tells 1, so Done stays
	b.dump("\x00\x00\x00\x00\x00\x00\x00\x00\x01")
	b = fresh(t)
	b.write(0, 'x') // sent without asking: Done is set all the same
	b.dump("\x00\x00\x00\x00\x00\x00\x00\x00\x01")
	b.write(3, 0x80)
	b.write(1, 2) // that is DLM
	b.write(3, 0)
	b.level(false)
}

func TestP15_2Fcr(t *testing.T) {
	b := fresh(t)
	for i := range 17 {
		b.input(byte('a'+i), i < 16)
	}
	b.write(2, 2)
	if b.u.Waiting() != 0 {
		t.Error("the queue isn't emptied")
	}
	b.read(2, 1)
	b.read(5, 0x62) // Over stays
	b.input('z', true)
	b.write(2, 1)
	if b.u.Waiting() != 1 {
		t.Error("the queue is emptied without bit 1")
	}
	b.write(2, 0xfc)
	b.read(2, 1)
	b.read(0, 'z')
}

func TestP15_2InputAndTake(t *testing.T) {
	for _, fcr := range []uint64{0, 1} {
		b := fresh(t)
		b.write(2, fcr)
		for i := range 16 {
			b.input(byte('a'+i), true)
		}
		b.input('!', false)
		if b.u.Waiting() != 16 {
			t.Errorf("Waiting %d", b.u.Waiting())
		}
		b.read(0, 'a')
		b.input('?', true)
		for _, c := range "bcdefghijklmnop?" {
			b.read(0, uint64(c))
		}
		b.read(0, 0)
	}
	b := fresh(t)
	for _, c := range "hello" {
		b.write(0, uint64(c)|0xff00)
	}
	b.read(0, 0)
	b.write(2, 3)
	b.take("hello")
	b.take("")
	b.write(0, '!')
	b.take("!")
	long := strings.Repeat("0123456789", 50)
	for _, c := range long {
		b.write(0, uint64(c))
	}
	b.take(long)
}

func TestP15_3Dump(t *testing.T) {
	b := fresh(t)
	for i := range 17 {
		b.u.Input(byte(i))
	}
	b.write(2, 1)
	b.dump("\x00\x01\x00\x00\x00\x00\x00\x01\x00\x00\x01\x02\x03\x04\x05\x06\x07\x08\x09\x0a\x0b\x0c\x0d\x0e\x0f")
	b.read(0, 0)
	b.write(0, 'x')
	b.dump("\x00\x01\x00\x00\x00\x00\x00\x01\x01\x01\x02\x03\x04\x05\x06\x07\x08\x09\x0a\x0b\x0c\x0d\x0e\x0f")
}

// model is the chapter's table.
type model struct {
	ier, lcr, mcr, scr, dll, dlm byte
	enabled, over, done          bool
	queue, sent                  string
}

func (m *model) asked() byte {
	if m.ier&4 != 0 && m.over {
		return 6
	}
	if m.ier&1 != 0 && m.queue != "" {
		return 4
	}
	if m.ier&2 != 0 && m.done {
		return 2
	}
	return 1
}

func (m *model) read(off int) (b byte) {
	dlab := m.lcr >= 0x80
	switch {
	case off == 0 && dlab:
		return m.dll
	case off == 0 && m.queue != "":
		b, m.queue = m.queue[0], m.queue[1:]
	case off == 1 && dlab:
		return m.dlm
	case off == 1:
		return m.ier
	case off == 2:
		b = m.asked()
		m.done = m.done && b != 2
		if m.enabled {
			b += 0xc0
		}
	case off == 3:
		return m.lcr
	case off == 4:
		return m.mcr
	case off == 5:
		b = 0x60
		if m.queue != "" {
			b++
		}
		if m.over {
			b += 2
		}
		m.over = false
	case off == 7:
		return m.scr
	}
	return b
}

func (m *model) write(off int, b byte) {
	dlab := m.lcr >= 0x80
	switch {
	case off == 0 && dlab:
		m.dll = b
	case off == 0:
		m.sent += string([]byte{b})
		m.done = true
	case off == 1 && dlab:
		m.dlm = b
	case off == 1:
		m.done = m.done || m.ier&2 == 0 && b&2 != 0
		m.ier = b & 15
	case off == 2:
		m.enabled = b&1 != 0
		if b&2 != 0 {
			m.queue = ""
		}
	case off == 3:
		m.lcr = b
	case off == 4:
		m.mcr = b & 31
	case off == 7:
		m.scr = b
	}
}

func (m *model) dump() string {
	bit := func(is bool) byte {
		if is {
			return 1
		}
		return 0
	}
	return string([]byte{m.ier, bit(m.enabled), m.lcr, m.mcr, m.scr, m.dll, m.dlm, bit(m.over), bit(m.done)}) + m.queue
}

func TestP15_4And5Model(t *testing.T) {
	n := uint64(3)
	next := func(end uint64) uint64 {
		n = n*6364136223846793005 + 1442695040888963407
		return (n >> 20) % end
	}
	u, m := uart.New(), &model{}
	for step := range 60000 {
		switch next(6) {
		case 0, 1:
			off := next(8)
			want := m.read(int(off))
			if v, ok := u.Read(off, 1); v != uint64(want) || !ok {
				t.Fatalf("step %d: Read(%d) = %#x, want %#x", step, off, v, want)
			}
		case 2:
			off, v := next(8), next(1<<20)
			if off == 3 && next(3) > 0 {
				v &= 0x7f
			}
			if off == 2 && next(2) > 0 {
				v &^= 2
			}
			u.Write(off, 1, v)
			m.write(int(off), byte(v))
		case 3, 4:
			b := byte(next(256))
			room := len(m.queue) < 16
			if u.Input(b) != room {
				t.Fatalf("step %d: Input", step)
			}
			if room {
				m.queue += string([]byte{b})
			} else {
				m.over = true
			}
		case 5:
			if next(5) == 0 {
				if s := u.Take(); s != m.sent {
					t.Fatalf("step %d: Take %q, want %q", step, s, m.sent)
				}
				m.sent = ""
			}
		}
		if u.Dump() != m.dump() || u.Level() != (m.asked() != 1) || u.Waiting() != len(m.queue) {
			t.Fatalf("step %d: %q, %v, %d; want %q", step, u.Dump(), u.Level(), u.Waiting(), m.dump())
		}
	}
}
