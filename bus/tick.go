package bus

import "almonry/api"

// The PLIC's contexts, and the interrupts by which they call.
const (
	contextM = 0
	contextS = 1
)

// Tick is one tick of all devices; it tells whether the watchdog expired.
func (b *Bus) Tick() bool {
	if !b.isMade() {
		return false
	}
	b.clint.Tick()
	b.blk.Tick(b)
	expired := b.dog.Tick()
	b.plic.Raise(api.UartSource, b.uart.Level())
	b.plic.Raise(api.BlkSource, b.blk.Level())
	b.plic.Raise(api.PortSource, b.ports.Level())
	for n := api.LineSource; n < api.SourcesEnd; n++ {
		b.plic.Raise(n, b.lines[n])
	}
	return expired
}

// Hw tells which interrupts the devices ask for.
func (b *Bus) Hw() uint64 {
	if !b.isMade() {
		return 0
	}
	bits := b.clint.Bits()
	if b.plic.Calls(contextM) {
		bits |= 1 << api.MEI
	}
	if b.plic.Calls(contextS) {
		bits |= 1 << api.SEI
	}
	return bits
}

// Time tells the virtual time.
func (b *Bus) Time() uint64 {
	if !b.isMade() {
		return 0
	}
	return b.clint.Mtime
}

// Input lays a byte that comes in into the uart's queue.
func (b *Bus) Input(c byte) bool {
	return b.isMade() && b.uart.Input(c)
}

// Line tells the level of a line from outside.
func (b *Bus) Line(n int, high bool) api.Errno {
	if !b.isMade() {
		return api.ErrNil
	}
	if n < api.LineSource || n >= api.SourcesEnd {
		return api.ErrArg
	}
	b.lines[n] = high
	return api.OK
}

// Delay tells the block device how many ticks commands take from then on.
func (b *Bus) Delay(ticks uint32) {
	if b.isMade() {
		b.blk.SetDelay(ticks)
	}
}

// Sent tells what the uart sent since the last time.
func (b *Bus) Sent() string {
	if !b.isMade() {
		return ""
	}
	return b.uart.Take()
}
