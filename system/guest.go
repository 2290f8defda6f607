package system

import (
	"slices"

	"almonry/api"
	"almonry/bus"
	"almonry/core"
	"almonry/event"
	"almonry/health"
	"almonry/image"
	"almonry/portio"
)

// guest is what a system keeps of each.
type guest struct {
	*core.Hart
	*health.Monitor
	bus    *bus.Bus
	image  image.Image
	counts Counts
}

// newGuest makes one whose hart begins at its image's entry.
func newGuest(n uint8, g api.Guest, x image.Image, l portio.Link) (*guest, api.Errno) {
	x.L = slices.Clone(x.L)
	b, e := bus.New(int(g.Pages), g.Limit, l)
	if e != api.OK {
		return nil, e
	}
	if e := b.Load(x); e != api.OK {
		return nil, e
	}
	m, e := health.New(g)
	if e != api.OK {
		return nil, e
	}
	h := core.New(uint64(n), b)
	h.Reset(x.Entry)
	return &guest{Hart: h, Monitor: m, bus: b, image: x}, api.OK
}

// happen lets an event come. One of no kind is none.
func (g *guest) happen(x api.Event) {
	does := map[uint8]func(*guest, api.Event){
		api.Input: (*guest).input,
		api.Line:  (*guest).line,
		api.Delay: (*guest).delay,
	}
	if do, ok := does[x.Kind]; ok {
		do(g, x)
	}
}

func (g *guest) input(x api.Event) {
	g.bus.Input(uint8(x.Value))
}

func (g *guest) line(x api.Event) {
	n, high := event.Which(x)
	g.bus.Line(n, high)
}

func (g *guest) delay(x api.Event) {
	g.bus.Delay(x.Value)
}

// act does what the monitor decided.
func (g *guest) act(action uint8) {
	if action == api.Halt {
		g.counts.Halted++
		return
	}
	g.bus.Reset()
	if action == api.Cold {
		g.bus.Load(g.image)
	}
	g.Reset(g.image.Entry)
	g.counts.Restarted++
}

// count counts a step that the hart did.
func (g *guest) count(outcome uint8) {
	switch outcome {
	case api.Retired:
		g.counts.Retired++
	case api.Trapped:
		g.counts.Trapped++
	case api.Idle:
		g.counts.Idle++
	}
}
