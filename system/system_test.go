package system_test

import (
	"fmt"
	"slices"
	"strings"
	"testing"

	"almonry/api"
	"almonry/asm"
	"almonry/bus"
	"almonry/channel"
	"almonry/config"
	"almonry/core"
	"almonry/event"
	"almonry/frame"
	"almonry/health"
	"almonry/image"
	"almonry/system"
)

const base = 0x80000000

func win(guest uint8, steps uint16) api.Window { return api.Window{Guest: guest, Steps: steps} }

func end(guest, port uint8) api.End { return api.End{Guest: guest, Port: port} }

// policy is a guest of one page, with actions by pairs of fault and action.
func policy(limit uint32, restart uint8, actions ...uint8) api.Guest {
	g := api.Guest{Pages: 1, Limit: limit, Restart: restart}
	for i := 0; i < len(actions); i += 2 {
		g.Actions[actions[i]] = actions[i+1]
	}
	return g
}

// program is the image of an assembled program, that begins at the beginning of the memory.
func program(t *testing.T, lines ...string) image.Image {
	t.Helper()
	s, n, e := asm.Assemble(strings.Join(lines, "\n"))
	if e != api.OK {
		t.Fatalf("line %d: %v", n, e)
	}
	return image.Image{Entry: base, L: []image.Segment{{At: base, Bytes: s}}}
}

func fresh(t *testing.T, c config.Config, images []image.Image, l ...api.Event) *system.System {
	t.Helper()
	s, e := system.New(c, images, l)
	if s == nil || e != api.OK {
		t.Fatalf("New = %v, %v", s, e)
	}
	return s
}

func lines(l []api.Output) string {
	var out []string
	for _, x := range l {
		out = append(out, fmt.Sprintf("%d %d %s %d", x.T, x.Guest, []string{"", "sent", "acted", "fault", "missed"}[x.Kind], x.V))
	}
	return strings.Join(out, "; ")
}

func traced(t *testing.T, s *system.System, want string) {
	t.Helper()
	if got := lines(s.Trace()); got != want {
		t.Errorf("put out %s; want %s", got, want)
	}
}

func counted(t *testing.T, s *system.System, guest uint8, want system.Counts) {
	t.Helper()
	if got := s.Counts(guest); got != want {
		t.Errorf("Counts(%d) = %+v, want %+v", guest, got, want)
	}
}

func one(g api.Guest, steps uint16) config.Config {
	return config.Config{Guests: []api.Guest{g}, Windows: []api.Window{win(0, steps)}}
}

func TestP31_2And3Example(t *testing.T) {
	s := fresh(t, one(policy(0, 1, 2, api.Warm), 4), []image.Image{program(t, "lui x5,65536", "addi x6,x0,97", "sb x6,0(x5)", ".word 0")})
	if s.Now() != 0 || len(s.Trace()) != 0 || s.Health(0) != "0 0" || s.Left() != 0 {
		t.Error("at first")
	}
	s.Run(3)
	traced(t, s, "2 0 sent 97")
	counted(t, s, 0, system.Counts{Retired: 3})
	s.Run(1)
	traced(t, s, "2 0 sent 97; 3 0 fault 2")
	counted(t, s, 0, system.Counts{Retired: 3, Trapped: 1})
	if s.Health(0) != "2 0" {
		t.Errorf("Health %q", s.Health(0))
	}
	s.Run(1)
	traced(t, s, "2 0 sent 97; 3 0 fault 2; 4 0 acted 2")
	counted(t, s, 0, system.Counts{Retired: 3, Trapped: 1, Restarted: 1})
	if s.Health(0) != "0 1" {
		t.Errorf("Health %q", s.Health(0))
	}
	s.Run(5)
	traced(t, s, "2 0 sent 97; 3 0 fault 2; 4 0 acted 2; 7 0 sent 97; 8 0 fault 2; 9 0 acted 4")
	if s.Health(0) != "0 1 halted" {
		t.Errorf("Health %q", s.Health(0))
	}
	s.Run(2)
	counted(t, s, 0, system.Counts{Retired: 6, Trapped: 2, Restarted: 1, Halted: 3})
	if s.Now() != 12 {
		t.Errorf("Now %d", s.Now())
	}
}

func TestP31_1New(t *testing.T) {
	img := program(t, "jal x0,0")
	two := config.Config{Guests: []api.Guest{policy(0, 0), policy(0, 0)}, Windows: []api.Window{win(0, 1), win(1, 1)}}
	odd, behind := image.Image{Entry: base + 1}, image.Image{Entry: base + 4096}
	big := two
	big.Guests = []api.Guest{{Pages: 2}, {Pages: 1}}
	noWindow, noAction, badChannel := two, two, two
	noWindow.Windows = []api.Window{win(0, 1)}
	noAction.Guests = []api.Guest{policy(0, 0, 3, 5), policy(0, 0)}
	badChannel.Channels = []api.Channel{{Kind: 1, Most: 1, Depth: 1, To: []api.End{end(0, 0)}}}
	for name, c := range map[string]struct {
		c      config.Config
		images []image.Image
		e      api.Errno
	}{
		"fine":                       {two, []image.Image{img, img}, api.OK},
		"nothing":                    {config.Config{}, nil, api.ErrRange},
		"no window":                  {noWindow, []image.Image{img, img}, api.ErrNone},
		"no action":                  {noAction, []image.Image{img, img}, api.ErrForm},
		"no channel":                 {badChannel, []image.Image{img, img}, api.ErrThere},
		"a configuration ahead":      {noWindow, []image.Image{odd}, api.ErrNone},
		"one image":                  {two, []image.Image{img}, api.ErrArg},
		"no image":                   {two, nil, api.ErrArg},
		"three images":               {two, []image.Image{img, img, img}, api.ErrArg},
		"a count ahead of images":    {two, []image.Image{odd}, api.ErrArg},
		"the first image":            {two, []image.Image{odd, behind}, api.ErrAlign},
		"the second image":           {two, []image.Image{img, behind}, api.ErrRange},
		"of the guest's pages":       {big, []image.Image{behind, img}, api.OK},
		"of the other guest's pages": {big, []image.Image{img, behind}, api.ErrRange},
	} {
		s, e := system.New(c.c, c.images, nil)
		if e != c.e || (s != nil) != (c.e == api.OK) {
			t.Errorf("%s: New %v, want %v", name, e, c.e)
		}
	}
}

func TestP31_1NothingMade(t *testing.T) {
	for name, s := range map[string]*system.System{"nil": nil, "not made": {}} {
		s.Step()
		s.Run(5)
		s.Run(-5)
		if s.Now() != 0 || len(s.Trace()) != 0 || s.Left() != 0 || s.Counts(0) != (system.Counts{}) || s.Guest(0) != "" || s.Health(0) != "" || s.Channels() != "" {
			t.Errorf("%s: something is there", name)
		}
	}
	s := fresh(t, one(policy(0, 0), 1), []image.Image{program(t, "jal x0,0")})
	s.Run(3)
	for _, g := range []uint8{1, 16, 255} {
		if s.Counts(g) != (system.Counts{}) || s.Guest(g) != "" || s.Health(g) != "" {
			t.Errorf("guest %d is there", g)
		}
	}
}

func TestP31_1KeepsNothingHandedIn(t *testing.T) {
	c := one(policy(0, 9, 2, api.Cold), 1)
	images := []image.Image{program(t, ".word 0")}
	l := []api.Event{{T: 5, Kind: api.Input, Value: 1}}
	s, same := fresh(t, c, images, l...), fresh(t, c, images, l...)
	c.Guests[0].Actions[2], c.Windows[0] = 0, win(0, 9)
	images[0].L[0].Bytes, images[0].Entry = "xxxxxxxx", base+64
	l[0] = api.Event{}
	s.Run(10)
	same.Run(10)
	traced(t, s, "0 0 fault 2; 1 0 acted 3; 2 0 fault 2; 3 0 acted 3; 4 0 fault 2; 5 0 acted 3; 6 0 fault 2; 7 0 acted 3; 8 0 fault 2; 9 0 acted 3")
	if s.Guest(0) != same.Guest(0) {
		t.Error("a change of what was handed in makes a difference")
	}
	out := s.Trace()
	out[0] = api.Output{}
	if s.Trace()[0] == out[0] {
		t.Error("Trace is no new memory")
	}
}

func TestP31_2RunAndNobody(t *testing.T) {
	c := config.Config{Guests: []api.Guest{policy(0, 0), policy(0, 0)}, Windows: []api.Window{win(0, 2), win(api.Nobody, 3), win(1, 1)}}
	s := fresh(t, c, []image.Image{program(t, "addi x1,x1,1", "jal x0,-4"), program(t, "wfi", "jal x0,0")})
	s.Run(0)
	s.Run(-1)
	if s.Now() != 0 {
		t.Errorf("Now %d", s.Now())
	}
	s.Run(13)
	if s.Now() != 13 {
		t.Errorf("Now %d", s.Now())
	}
	counted(t, s, 0, system.Counts{Retired: 5})
	counted(t, s, 1, system.Counts{Retired: 1, Idle: 1})
}

func TestP31_2Events(t *testing.T) {
	// The guest echoes what comes in.
	echo := program(t, "lui x5,65536", "lbu x7,5(x5)", "andi x7,x7,1", "beq x7,x0,-8", "lbu x6,0(x5)", "sb x6,0(x5)", "jal x0,-20")
	s := fresh(t, one(policy(0, 0), 1), []image.Image{echo}, api.Event{T: 3, Kind: api.Input, Value: 'a'}, api.Event{T: 3, Kind: api.Input, Value: 'b'}, api.Event{T: 9, Guest: 7, Kind: api.Input, Value: 1}, api.Event{T: 10, Kind: 9, Value: 1}, api.Event{T: 40, Kind: api.Input, Value: 'c'})
	if s.Left() != 5 {
		t.Errorf("Left %d", s.Left())
	}
	s.Run(3)
	if s.Left() != 5 {
		t.Errorf("Left %d: an event comes at its step", s.Left())
	}
	s.Run(1)
	if s.Left() != 3 {
		t.Errorf("Left %d", s.Left())
	}
	s.Run(56)
	traced(t, s, "8 0 sent 97; 14 0 sent 98; 44 0 sent 99")
	if s.Left() != 0 {
		t.Errorf("Left %d", s.Left())
	}
	counted(t, s, 0, system.Counts{Retired: 60})
}

func TestP31_2EventsComeAheadOfTheStep(t *testing.T) {
	read := program(t, "lui x5,65536", "lbu x6,0(x5)", "sb x6,0(x5)", "jal x0,0")
	for at, want := range map[uint32]string{0: "2 0 sent 104", 1: "2 0 sent 104", 2: "2 0 sent 0"} {
		s := fresh(t, one(policy(0, 0), 1), []image.Image{read}, api.Event{T: at, Kind: api.Input, Value: 104})
		s.Run(5)
		traced(t, s, want)
	}
	// To a guest whose step it is not, too; and to one that is halted.
	c := config.Config{Guests: []api.Guest{policy(0, 0), policy(0, 0, 2, api.Halt)}, Windows: []api.Window{win(0, 1), win(1, 1)}}
	s := fresh(t, c, []image.Image{program(t, "jal x0,0"), program(t, ".word 0")}, api.Event{T: 6, Guest: 1, Kind: api.Input, Value: 65}, api.Event{T: 6, Guest: 1, Kind: api.Line, Value: 4*2 + 1}, api.Event{T: 6, Guest: 1, Kind: api.Delay, Value: 9})
	s.Run(6)
	before := s.Guest(1)
	s.Run(1)
	after := s.Guest(1)
	if before == after || !strings.Contains(after, "0 0 0 0 0 9") || len(after) != len(before)+1 {
		t.Errorf("a halted guest's devices: %q, %q", before, after)
	}
	if before[:506] != after[:506] {
		t.Error("a halted guest's hart")
	}
}

func TestP31_2LinesAndDelays(t *testing.T) {
	// A line that rises interrupts the guest: it is enabled in the PLIC for M, which enables external interrupts.
	lines := []string{
		"lui x5,49152", "addi x6,x0,1", "sw x6,16(x5)", // priority of source 4
		"lui x7,49154", "addi x6,x0,16", "sw x6,0(x7)", // enabled by context 0
		"auipc x8,0", "addi x8,x8,48", "csrrw x0,773,x8", // mtvec
		"lui x6,1", "addi x6,x6,-2048", "csrrw x0,772,x6", "csrrwi x0,768,8", // mie, mstatus
		"jal x0,0", "jal x0,0", "jal x0,0", "jal x0,0", "jal x0,0",
		"lui x5,65536", "addi x6,x0,33", "sb x6,0(x5)", "jal x0,0",
	}
	s := fresh(t, one(policy(0, 0), 1), []image.Image{program(t, lines...)}, api.Event{T: 20, Kind: api.Line, Value: 9}, api.Event{T: 50, Kind: api.Line, Value: 8})
	s.Run(20)
	counted(t, s, 0, system.Counts{Retired: 20})
	s.Run(1)
	counted(t, s, 0, system.Counts{Retired: 20, Trapped: 1})
	s.Run(5)
	traced(t, s, "23 0 sent 33")
	// An interrupt is no fault: the monitor is not told of its cause.
	c := one(policy(0, 0, 11, api.Halt), 1)
	s = fresh(t, c, []image.Image{program(t, lines...)}, api.Event{T: 20, Kind: api.Line, Value: 9})
	s.Run(30)
	traced(t, s, "23 0 sent 33")
}

func TestP31_2WarmAndCold(t *testing.T) {
	// The guest counts its beginnings in the memory, sends the count, and fails; it leaves marks in hart and devices.
	count := program(t, "lui x5,65536", "auipc x9,0", "lb x6,512(x9)", "addi x6,x6,1", "sb x6,512(x9)", "addi x7,x6,48", "sb x7,0(x5)", "csrrwi x0,832,7", ".word 0")
	count.L = append(count.L, image.Segment{At: base + 516, Bytes: "\x04"}) // x9 is base + 4
	for _, c := range []struct {
		action uint8
		want   string
	}{
		{api.Warm, "6 0 sent 53; 8 0 fault 2; 9 0 acted 2; 16 0 sent 54; 18 0 fault 2; 19 0 acted 2; 26 0 sent 55; 28 0 fault 2; 29 0 acted 4"},
		{api.Cold, "6 0 sent 53; 8 0 fault 2; 9 0 acted 3; 16 0 sent 53; 18 0 fault 2; 19 0 acted 3; 26 0 sent 53; 28 0 fault 2; 29 0 acted 4"},
	} {
		s := fresh(t, one(policy(0, 2, 2, c.action), 1), []image.Image{count})
		s.Run(40)
		traced(t, s, c.want)
		counted(t, s, 0, system.Counts{Retired: 24, Trapped: 3, Restarted: 2, Halted: 11})
	}
	// Behind a cold restart all is as at first, but for the sectors, the delay, the lines and the health.
	s := fresh(t, one(policy(0, 2, 2, api.Cold), 1), []image.Image{count})
	first := s.Guest(0)
	s.Run(9)
	if s.Guest(0) == first {
		t.Error("the guest leaves no mark")
	}
	s.Run(1)
	if s.Guest(0) != first {
		t.Errorf("behind a cold restart: %q, want %q", s.Guest(0), first)
	}
	s = fresh(t, one(policy(0, 2, 2, api.Warm), 1), []image.Image{count})
	s.Run(10)
	if got := s.Guest(0); got[:len(got)-8] != first[:len(first)-8] || got == first {
		t.Errorf("behind a warm restart: %q, want %q but for the memory", got, first)
	}
	// The entry may stand anywhere.
	later := image.Image{Entry: base + 64, L: []image.Segment{{At: base + 64, Bytes: count.L[0].Bytes[:4] + "\x00\x00\x00\x00"}}}
	s = fresh(t, one(policy(0, 9, 2, api.Warm), 1), []image.Image{later})
	s.Run(9)
	traced(t, s, "1 0 fault 2; 2 0 acted 2; 4 0 fault 2; 5 0 acted 2; 7 0 fault 2; 8 0 acted 2")
}

func TestP31_2Watchdog(t *testing.T) {
	loop := program(t, "jal x0,0")
	for _, c := range []struct {
		g     api.Guest
		steps int
		want  string
	}{
		{policy(3, 1, api.Watchdog, api.Cold), 8, "2 0 fault 16; 3 0 acted 3; 6 0 fault 16; 7 0 acted 4"},
		{policy(3, 1, api.Watchdog, api.Ignore), 7, "2 0 fault 16; 5 0 fault 16"},
		{policy(3, 1, api.Watchdog, api.None), 20, ""},
		{policy(3, 1, api.Watchdog, api.Halt), 20, "2 0 fault 16; 3 0 acted 4"},
		{policy(0, 1, api.Watchdog, api.Halt), 20, ""},
	} {
		s := fresh(t, one(c.g, 1), []image.Image{loop})
		s.Run(c.steps)
		traced(t, s, c.want)
	}
	// One that kicks it never sees it expire.
	s := fresh(t, one(policy(3, 1, api.Watchdog, api.Halt), 1), []image.Image{program(t, "lui x5,65538", "sw x0,0(x5)", "jal x0,-4")})
	s.Run(50)
	traced(t, s, "")
	// What was sent goes ahead of the watchdog's end, and that ahead of an exception.
	s = fresh(t, one(policy(3, 1, api.Watchdog, api.Ignore), 1), []image.Image{program(t, "lui x5,65536", "addi x6,x0,97", "sb x6,0(x5)", "jal x0,0")})
	s.Run(4)
	traced(t, s, "2 0 sent 97; 2 0 fault 16")
	s = fresh(t, one(policy(3, 1, api.Watchdog, api.Warm, 2, api.Cold), 1), []image.Image{program(t, "addi x0,x0,0", "addi x0,x0,0", ".word 0")})
	s.Run(4)
	traced(t, s, "2 0 fault 16; 2 0 fault 2; 3 0 acted 3")
}

// pair is two guests whose ports a queuing channel and a sampling one join: the first sends, the second puts out what it receives.
func pair(t *testing.T) (config.Config, []image.Image) {
	t.Helper()
	c := config.Config{
		Guests:  []api.Guest{policy(0, 3, 2, api.Warm), policy(0, 3, 2, api.Cold), policy(0, 0)},
		Windows: []api.Window{win(0, 3), win(1, 2), win(api.Nobody, 1), win(2, 1), win(1, 1)},
		Channels: []api.Channel{
			{Kind: 1, Guest: 0, Port: 2, Most: 4, Depth: 3, To: []api.End{end(1, 5)}},
			{Kind: 0, Guest: 0, Port: 3, Most: 4, Validity: 10, To: []api.End{end(1, 6), end(0, 7)}},
		},
	}
	send := program(t, "lui x5,65539", "addi x6,x0,1", "addi x7,x0,65", "sb x7,576(x5)", "sw x6,516(x5)", "sw x6,528(x5)", "addi x7,x7,1", "jal x0,-16")
	receive := program(t, "lui x5,65539", "lui x9,65536", "addi x6,x0,2", "addi x5,x5,1280", "sw x6,16(x5)", "lw x7,0(x5)", "bne x7,x0,-8", "lb x8,64(x5)", "sb x8,0(x9)", "jal x0,-20")
	return c, []image.Image{send, receive, program(t, "addi x1,x1,1", "jal x0,-4")}
}

func TestP31_2Channels(t *testing.T) {
	c, images := pair(t)
	s := fresh(t, c, images)
	s.Run(400)
	var got []byte
	for _, x := range s.Trace() {
		if x.Guest != 1 || x.Kind != api.Sent {
			t.Fatalf("%+v", x)
		}
		got = append(got, byte(x.V))
	}
	if len(got) < 10 {
		t.Fatalf("received %q", got)
	}
	for i, b := range got { // those that were not refused for want of room, in order, each once
		if i > 0 && b <= got[i-1] || i < 3 && b != byte('A'+i) {
			t.Errorf("received %q", got)
			break
		}
	}
	if s.Channels() == "" || s.Channels() == fresh(t, c, images).Channels() {
		t.Errorf("Channels %q", s.Channels())
	}
}

func TestP31_2AgesAreGlobalSteps(t *testing.T) {
	// The guest sends at its step 5, and receives that itself at its steps 6 and 11; it puts the ages out, and at last the status.
	self := program(t, "lui x5,65539", "addi x6,x0,1", "addi x7,x0,2", "lui x9,65536", "sw x6,4(x5)", "sw x6,16(x5)",
		"sw x7,272(x5)", "lw x8,264(x5)", "sb x8,0(x9)", "addi x0,x0,0", "addi x0,x0,0", "sw x7,272(x5)", "lw x8,264(x5)", "sb x8,0(x9)", "lw x8,256(x5)", "sb x8,0(x9)", "jal x0,0")
	c := config.Config{
		Guests:   []api.Guest{policy(0, 0)},
		Windows:  []api.Window{win(0, 1), win(api.Nobody, 2)},
		Channels: []api.Channel{{Kind: 0, Guest: 0, Port: 0, Most: 4, Validity: 10, To: []api.End{end(0, 1)}}},
	}
	s := fresh(t, c, []image.Image{self})
	s.Run(60)
	traced(t, s, "24 0 sent 3; 39 0 sent 18; 45 0 sent 5")
}

// mirror is a system that is made of the parts by hand.
type mirror struct {
	c        config.Config
	table    *frame.Table
	channels *channel.Table
	events   *event.Queue
	bus      []*bus.Bus
	hart     []*core.Hart
	monitor  []*health.Monitor
	images   []image.Image
	counts   []system.Counts
	trace    []api.Output
	now      uint64
}

func newMirror(t *testing.T, c config.Config, images []image.Image, l []api.Event) *mirror {
	t.Helper()
	m := &mirror{c: c, images: images, events: event.New(l), counts: make([]system.Counts, len(images))}
	m.table, _ = frame.New(c.Windows, len(c.Guests))
	m.channels, _ = channel.New(c.Channels, len(c.Guests))
	for i, g := range c.Guests {
		b, e := bus.New(int(g.Pages), g.Limit, m.channels.Link(uint8(i)))
		if e != api.OK || b.Load(images[i]) != api.OK {
			t.Fatal(e)
		}
		h := core.New(uint64(i), b)
		h.Reset(images[i].Entry)
		x, _ := health.New(g)
		m.bus, m.hart, m.monitor = append(m.bus, b), append(m.hart, h), append(m.monitor, x)
	}
	return m
}

func (m *mirror) step() {
	m.channels.At(m.now)
	for _, x := range m.events.Due(m.now) {
		if int(x.Guest) >= len(m.bus) {
			continue
		}
		b := m.bus[x.Guest]
		switch x.Kind {
		case api.Input:
			b.Input(byte(x.Value))
		case api.Line:
			b.Line(event.Which(x))
		case api.Delay:
			b.Delay(x.Value)
		}
	}
	if g := m.table.Owner(m.now); g != api.Nobody {
		m.owned(g)
	}
	m.now++
}

func (m *mirror) owned(g uint8) {
	put := func(kind uint8, v uint64) {
		m.trace = append(m.trace, api.Output{T: m.now, Guest: g, Kind: kind, V: v})
	}
	n, x := &m.counts[g], m.monitor[g]
	if x.Halted() {
		n.Halted++
		return
	}
	if x.Pending() != 0 {
		a := x.Take()
		put(api.Acted, uint64(a))
		if a == api.Halt {
			n.Halted++
			return
		}
		m.bus[g].Reset()
		if a == api.Cold {
			m.bus[g].Load(m.images[g])
		}
		m.hart[g].Reset(m.images[g].Entry)
		n.Restarted++
		return
	}
	told := m.hart[g].Step()
	switch told.Outcome {
	case api.Retired:
		n.Retired++
	case api.Trapped:
		n.Trapped++
	default:
		n.Idle++
	}
	for _, b := range []byte(m.bus[g].Sent()) {
		put(api.Sent, uint64(b))
	}
	if told.Dog && x.Raise(16) != 0 {
		put(api.Fault, 16)
	}
	if told.Outcome == api.Trapped && !told.Interrupt && x.Raise(told.Cause) != 0 {
		put(api.Fault, uint64(told.Cause))
	}
}

type random uint64

func (r *random) below(n uint64) uint64 {
	*r = *r*6364136223846793005 + 1442695040888963407
	return uint64(*r>>20) % n
}

// someImage is a random program among those that use serial line, ports, timer, block device and watchdog, and fail.
func someImage(t *testing.T, r *random) image.Image {
	lines := []string{"lui x5,65536", "lui x6,65537", "lui x7,65538", "lui x8,65539", "auipc x9,0", "lui x10,8192", "addi x11,x0,65", "addi x12,x0,2", "addi x15,x0,1"}
	some := []string{
		"sb x11,0(x5)", "sb x11,0(x5)", "sb x11,0(x5)", "addi x11,x11,1", "lbu x13,0(x5)", "sb x12,1(x5)", "addi x11,x11,1", "sb x13,0(x5)", "lbu x14,5(x5)",
		"sw x12,16(x6)", "sw x13,0(x6)", "sd x9,8(x6)", "sw x0,24(x6)", "lw x14,20(x6)",
		"sw x0,0(x7)", "lw x14,8(x7)",
		"sb x11,64(x8)", "sw x12,4(x8)", "sw x15,16(x8)", "ld x13,264(x8)", "sw x12,272(x8)", "lb x13,320(x8)", "lw x14,256(x8)", "sw x12,528(x8)", "lw x13,532(x8)",
		"sw x15,0(x10)", "csrrwi x0,768,8", "csrrw x0,772,x11", "wfi", "ebreak", "ecall", ".word 0", "ld x13,1(x9)", "lw x13,0(x0)",
		"sb x11,1024(x9)", "lb x13,1024(x9)", "addi x16,x16,1", "amoaddd x13,x9,x0", "jal x0,-16", "jal x0,8", "bne x13,x0,-12", "mret",
	}
	for range 20 + r.below(60) {
		lines = append(lines, some[r.below(uint64(len(some)))])
	}
	x := program(t, append(lines, "jal x0,-120")...)
	if r.below(2) == 0 {
		x.L = append(x.L, image.Segment{At: base + 1024, Bytes: "some bytes"})
	}
	return x
}

func someSystem(t *testing.T, r *random) (config.Config, []image.Image, []api.Event) {
	n := 1 + r.below(4)
	var c config.Config
	var images []image.Image
	var l []api.Event
	for g := range n {
		x := api.Guest{Pages: uint8(1 + r.below(2)), Limit: uint32(r.below(60)), Restart: uint8(r.below(3) * r.below(12))}
		for i := range x.Actions {
			if r.below(2) == 0 {
				x.Actions[i] = uint8(r.below(4))
			}
			if r.below(20) == 0 {
				x.Actions[i] = api.Halt
			}
		}
		c.Guests = append(c.Guests, x)
		images = append(images, someImage(t, r))
		c.Windows = append(c.Windows, win(uint8(g), uint16(1+r.below(5))))
	}
	for range r.below(5) {
		g := uint8(r.below(n + 1))
		if uint64(g) == n {
			g = api.Nobody
		}
		c.Windows = append(c.Windows, win(g, uint16(1+r.below(5))))
	}
	for range r.below(4) {
		x := api.Channel{Kind: uint8(r.below(2)), Guest: uint8(r.below(n)), Port: 0, Most: 8, To: []api.End{end(uint8(r.below(n)), uint8(1+r.below(2)))}}
		if x.Kind == 1 {
			x.Depth = uint8(1 + r.below(3))
		} else {
			x.Validity = uint32(r.below(9))
		}
		if channel.Check(append(c.Channels, x), int(n)) == api.OK {
			c.Channels = append(c.Channels, x)
		}
	}
	at := uint32(0)
	for range r.below(30) {
		at += uint32(r.below(20))
		l = append(l, api.Event{T: at, Guest: uint8(r.below(n)), Kind: uint8(1 + r.below(3)), Value: uint32(8 + r.below(8))})
	}
	return c, images, l
}

func (m *mirror) same(t *testing.T, s *system.System) {
	t.Helper()
	if s.Now() != m.now || !slices.Equal(s.Trace(), m.trace) || s.Channels() != m.channels.Dump() || s.Left() != m.events.Left() {
		t.Fatalf("at %d: %s; want %s", s.Now(), lines(s.Trace()), lines(m.trace))
	}
	for g := range m.bus {
		if s.Guest(uint8(g)) != m.hart[g].Dump() || s.Health(uint8(g)) != m.monitor[g].Text() || s.Counts(uint8(g)) != m.counts[g] {
			t.Fatalf("at %d: guest %d, %+v, %q; want %+v, %q", s.Now(), g, s.Counts(uint8(g)), s.Health(uint8(g)), m.counts[g], m.monitor[g].Text())
		}
	}
}

func TestP31_2And3Model(t *testing.T) {
	r := random(1)
	kinds := map[uint8]int{}
	for range 60 {
		c, images, l := someSystem(t, &r)
		s, m := fresh(t, c, images, l...), newMirror(t, c, images, l)
		for step := range 300 {
			s.Step()
			m.step()
			if step%13 == 0 {
				m.same(t, s)
			}
		}
		m.same(t, s)
		for _, x := range s.Trace() {
			kinds[x.Kind]++
		}
	}
	if kinds[api.Sent] < 100 || kinds[api.Acted] < 200 || kinds[api.Fault] < 200 {
		t.Errorf("the test reaches too little: %v", kinds)
	}
}

func total(c system.Counts) uint64 {
	return c.Retired + c.Trapped + c.Idle + c.Restarted + c.Halted
}

func TestP31_4And5Frames(t *testing.T) {
	r := random(2)
	for range 40 {
		c, images, l := someSystem(t, &r)
		s := fresh(t, c, images, l...)
		table, _ := frame.New(c.Windows, len(c.Guests))
		halted := map[uint8]string{}
		for range 40 {
			before := make([]system.Counts, len(images))
			for g := range images {
				before[g] = s.Counts(uint8(g))
			}
			s.Run(int(table.Length()))
			for g := range images {
				now := s.Counts(uint8(g))
				if total(now)-total(before[g]) != table.Budget(uint8(g)) {
					t.Fatalf("guest %d's counts rise by %d, its budget is %d", g, total(now)-total(before[g]), table.Budget(uint8(g)))
				}
				is := strings.HasSuffix(s.Health(uint8(g)), "halted")
				if !is && now.Halted != 0 {
					t.Fatalf("guest %d isn't halted, and counts %+v", g, now)
				}
				hart := s.Guest(uint8(g))[:506] // its registers and its state, which no event changes
				if was, ok := halted[uint8(g)]; ok && was != hart {
					t.Fatalf("guest %d is halted, and its hart changes", g)
				}
				if is {
					halted[uint8(g)] = hart
				}
			}
		}
		checkActions(t, table, s.Trace())
	}
}

// checkActions: T rises; an action stands at the guest's next owned step behind the last fault.
func checkActions(t *testing.T, table *frame.Table, l []api.Output) {
	t.Helper()
	lastFault := map[uint8]uint64{}
	for i, x := range l {
		if i > 0 && x.T < l[i-1].T {
			t.Fatalf("%s", lines(l))
		}
		switch x.Kind {
		case api.Fault:
			lastFault[x.Guest] = x.T
		case api.Acted:
			if next, _ := table.Next(x.Guest, lastFault[x.Guest]+1); next != x.T {
				t.Fatalf("%+v, and the fault at %d", x, lastFault[x.Guest])
			}
		}
	}
}

func TestP31_6InParts(t *testing.T) {
	r := random(3)
	for range 20 {
		c, images, l := someSystem(t, &r)
		a, b, d := fresh(t, c, images, l...), fresh(t, c, images, l...), fresh(t, c, images, l...)
		a.Run(500)
		for range 500 {
			b.Step()
		}
		for done := 0; done < 500; {
			n := min(int(r.below(60)), 500-done)
			d.Run(n)
			d.Run(-n)
			done += n
			d.Trace()
			d.Guest(0)
			d.Channels()
		}
		for _, x := range []*system.System{b, d} {
			if x.Now() != a.Now() || !slices.Equal(x.Trace(), a.Trace()) || x.Channels() != a.Channels() || x.Left() != a.Left() {
				t.Fatal("steps in parts lead elsewhere")
			}
			for g := range images {
				if x.Guest(uint8(g)) != a.Guest(uint8(g)) || x.Counts(uint8(g)) != a.Counts(uint8(g)) || x.Health(uint8(g)) != a.Health(uint8(g)) {
					t.Fatal("steps in parts lead elsewhere")
				}
			}
		}
	}
}

// TestT3Interrupts: one that is pending, enabled and not masked at the tick of an owned step is taken in that step.
func TestT3Interrupts(t *testing.T) {
	timer := program(t, "lui x5,8196", "addi x6,x0,9", "sd x6,0(x5)", "auipc x7,0", "addi x7,x7,64", "csrrw x0,773,x7", "addi x6,x0,128", "csrrw x0,772,x6", "csrrwi x0,768,8", "jal x0,0", "jal x0,0")
	c := config.Config{Guests: []api.Guest{policy(0, 0), policy(0, 0)}, Windows: []api.Window{win(0, 1), win(1, 2)}}
	s := fresh(t, c, []image.Image{timer, program(t, "jal x0,0")})
	s.Run(3 * 9)
	counted(t, s, 0, system.Counts{Retired: 9})
	s.Run(1) // the tick that makes the virtual time 10, not below 9; until the step ahead of it MIE was not set
	counted(t, s, 0, system.Counts{Retired: 9, Trapped: 1})
}

// TestT4Apart: what does not reach a guest makes no difference to it, at any step.
func TestT4Apart(t *testing.T) {
	r := random(4)
	for range 40 {
		c, images, l := someSystem(t, &r)
		ways, _ := channel.New(c.Channels, len(c.Guests))
		g := uint8(r.below(uint64(len(images))))
		other, far := slices.Clone(images), slices.Clone(l)
		for i := range other {
			if !ways.Reaches(uint8(i), g) {
				other[i] = someImage(t, &r)
			}
		}
		far = slices.DeleteFunc(far, func(x api.Event) bool { return !ways.Reaches(x.Guest, g) })
		a, b := fresh(t, c, images, l...), fresh(t, c, other, far...)
		mine := func(s *system.System) []api.Output {
			return slices.DeleteFunc(s.Trace(), func(x api.Output) bool { return x.Guest != g })
		}
		for range 250 {
			a.Step()
			b.Step()
			if a.Guest(g) != b.Guest(g) || a.Health(g) != b.Health(g) || a.Counts(g) != b.Counts(g) || !slices.Equal(mine(a), mine(b)) {
				t.Fatalf("at %d guest %d is another one", a.Now(), g)
			}
		}
	}
}
