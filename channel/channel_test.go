package channel_test

import (
	"fmt"
	"reflect"
	"strings"
	"testing"

	"almonry/api"
	"almonry/channel"
)

func end(guest, port uint8) api.End { return api.End{Guest: guest, Port: port} }

func sampling(guest, port, most uint8, validity uint32, to ...api.End) api.Channel {
	return api.Channel{Kind: 0, Guest: guest, Port: port, To: to, Most: most, Validity: validity}
}

func queuing(guest, port, most, depth uint8, to ...api.End) api.Channel {
	return api.Channel{Kind: 1, Guest: guest, Port: port, To: to, Most: most, Depth: depth}
}

// example is the chapter's.
func example() []api.Channel {
	return []api.Channel{sampling(0, 0, 4, 5, end(1, 1), end(2, 1)), queuing(1, 0, 4, 1, end(2, 2))}
}

func fresh(t *testing.T, l []api.Channel, guests int) *channel.Table {
	t.Helper()
	x, e := channel.New(l, guests)
	if x == nil || e != api.OK {
		t.Fatalf("New = %v, %v", x, e)
	}
	return x
}

func many(n int) []api.Channel {
	var l []api.Channel
	for i := range n {
		l = append(l, sampling(0, uint8(i%16), 4, 0, end(1, uint8(i%16))))
	}
	return l
}

func TestP20_1Check(t *testing.T) {
	with := func(c api.Channel, change func(*api.Channel)) []api.Channel {
		change(&c)
		return []api.Channel{c}
	}
	s, q := sampling(0, 0, 4, 5, end(1, 1)), queuing(1, 0, 4, 1, end(2, 2))
	cases := []struct {
		name   string
		l      []api.Channel
		guests int
		e      api.Errno
	}{
		{"none", nil, 1, api.OK},
		{"the example", example(), 3, api.OK},
		{"no guests", nil, 0, api.ErrArg},
		{"guests below 0", example(), -1, api.ErrArg},
		{"17 guests", many(17), 17, api.ErrArg},
		{"16 guests", []api.Channel{sampling(15, 15, 1, 0, end(14, 15))}, 16, api.OK},
		{"16 channels", many(16), 2, api.OK},
		{"17 channels", many(17), 2, api.ErrLong},
		{"17 channels that may not be", append([]api.Channel{{Kind: 9}}, many(16)...), 2, api.ErrLong},
		{"another kind", with(s, func(c *api.Channel) { c.Kind = 2 }), 3, api.ErrForm},
		{"another great kind", with(q, func(c *api.Channel) { c.Kind = 255 }), 3, api.ErrForm},
		{"Most 0", with(s, func(c *api.Channel) { c.Most = 0 }), 3, api.ErrForm},
		{"Most 64", with(s, func(c *api.Channel) { c.Most = 64 }), 3, api.OK},
		{"Most 65", with(s, func(c *api.Channel) { c.Most = 65 }), 3, api.ErrForm},
		{"queuing, Most 0", with(q, func(c *api.Channel) { c.Most = 0 }), 3, api.ErrForm},
		{"queuing, Most 65", with(q, func(c *api.Channel) { c.Most = 65 }), 3, api.ErrForm},
		{"sampling with a depth", with(s, func(c *api.Channel) { c.Depth = 1 }), 3, api.ErrForm},
		{"queuing, Depth 0", with(q, func(c *api.Channel) { c.Depth = 0 }), 3, api.ErrForm},
		{"queuing, Depth 16", with(q, func(c *api.Channel) { c.Depth = 16 }), 3, api.OK},
		{"queuing, Depth 17", with(q, func(c *api.Channel) { c.Depth = 17 }), 3, api.ErrForm},
		{"queuing with a validity", with(q, func(c *api.Channel) { c.Validity = 1 }), 3, api.ErrForm},
		{"sampling, the greatest validity", with(s, func(c *api.Channel) { c.Validity = 1<<32 - 1 }), 3, api.OK},
		{"sampling to none", with(s, func(c *api.Channel) { c.To = nil }), 3, api.ErrForm},
		{"sampling to 4", with(s, func(c *api.Channel) { c.To = []api.End{end(1, 1), end(1, 2), end(1, 3), end(1, 4)} }), 3, api.OK},
		{"sampling to 5", with(s, func(c *api.Channel) { c.To = []api.End{end(1, 1), end(1, 2), end(1, 3), end(1, 4), end(1, 5)} }), 3, api.ErrForm},
		{"queuing to none", with(q, func(c *api.Channel) { c.To = nil }), 3, api.ErrForm},
		{"queuing to 2", with(q, func(c *api.Channel) { c.To = []api.End{end(1, 1), end(1, 2)} }), 3, api.ErrForm},
		{"form ahead of range", []api.Channel{sampling(9, 0, 0, 0, end(1, 1))}, 3, api.ErrForm},
		{"a source's guest", []api.Channel{sampling(3, 0, 4, 0, end(1, 1))}, 3, api.ErrRange},
		{"a source's port", []api.Channel{sampling(0, 16, 4, 0, end(1, 1))}, 3, api.ErrRange},
		{"a destination's guest", []api.Channel{queuing(0, 0, 4, 1, end(3, 1))}, 3, api.ErrRange},
		{"a destination's port", []api.Channel{queuing(0, 0, 4, 1, end(1, 16))}, 3, api.ErrRange},
		{"a later destination's guest", []api.Channel{sampling(0, 0, 4, 0, end(1, 1), end(255, 1))}, 3, api.ErrRange},
		{"range ahead of there", []api.Channel{sampling(0, 0, 4, 0, end(0, 0), end(3, 1))}, 3, api.ErrRange},
		{"a destination that is the source", []api.Channel{sampling(0, 0, 4, 0, end(0, 0))}, 3, api.ErrThere},
		{"a destination twice", []api.Channel{sampling(0, 0, 4, 0, end(1, 1), end(1, 1))}, 3, api.ErrThere},
		{"a source twice", []api.Channel{sampling(0, 0, 4, 0, end(1, 1)), queuing(0, 0, 4, 1, end(1, 2))}, 3, api.ErrThere},
		{"a source that was a destination", []api.Channel{sampling(0, 0, 4, 0, end(1, 1)), queuing(1, 1, 4, 1, end(1, 2))}, 3, api.ErrThere},
		{"a destination that was a source", []api.Channel{sampling(0, 0, 4, 0, end(1, 1)), queuing(1, 2, 4, 1, end(0, 0))}, 3, api.ErrThere},
		{"a destination of two", []api.Channel{sampling(0, 0, 4, 0, end(1, 1)), queuing(1, 2, 4, 1, end(1, 1))}, 3, api.ErrThere},
		{"to the guest itself", []api.Channel{sampling(0, 0, 4, 0, end(0, 1))}, 1, api.OK},
		{"the same ports of others", []api.Channel{sampling(0, 0, 4, 0, end(1, 0)), sampling(2, 0, 4, 0, end(1, 1))}, 3, api.OK},
		{"the first channel that may not be", []api.Channel{sampling(0, 0, 4, 0, end(0, 0)), {Kind: 9}}, 3, api.ErrThere},
		{"a later channel", append(example(), api.Channel{Kind: 9}), 3, api.ErrForm},
	}
	for _, c := range cases {
		before := fmt.Sprint(c.l)
		if got := channel.Check(c.l, c.guests); got != c.e {
			t.Errorf("%s: Check %v, want %v", c.name, got, c.e)
		}
		x, e := channel.New(c.l, c.guests)
		if e != c.e || (x != nil) != (c.e == api.OK) {
			t.Errorf("%s: New %v, want %v", c.name, e, c.e)
		}
		if fmt.Sprint(c.l) != before {
			t.Errorf("%s: what was handed in was changed", c.name)
		}
	}
}

func TestP20_1KeepsNothingHandedIn(t *testing.T) {
	l := example()
	x := fresh(t, l, 3)
	l[0].To[0] = end(0, 9)
	l[0].Most, l[1].Depth, l[1].Guest = 1, 9, 0
	if x.Send(0, 0, "abcd") != api.StatusOK || x.Waiting(1, 1) != 1 || x.Waiting(0, 9) != 0 {
		t.Error("a change of what was handed in makes a difference")
	}
}

type bench struct {
	t *testing.T
	x *channel.Table
}

func (b bench) send(guest, port uint8, s string, want uint8) {
	b.t.Helper()
	if got := b.x.Send(guest, port, s); got != want {
		b.t.Errorf("Send(%d, %d, %q) = %d, want %d", guest, port, s, got, want)
	}
}

func (b bench) receive(guest, port uint8, s string, age uint64, want uint8) {
	b.t.Helper()
	if got, a, status := b.x.Receive(guest, port); got != s || a != age || status != want {
		b.t.Errorf("Receive(%d, %d) = %q, %d, %d; want %q, %d, %d", guest, port, got, a, status, s, age, want)
	}
}

func (b bench) waiting(guest, port uint8, want int) {
	b.t.Helper()
	if got := b.x.Waiting(guest, port); got != want {
		b.t.Errorf("Waiting(%d, %d) = %d, want %d", guest, port, got, want)
	}
}

func TestP20_2And3Examples(t *testing.T) {
	b := bench{t, fresh(t, example(), 3)}
	b.x.At(3)
	b.send(0, 0, "ab", api.StatusOK)
	b.x.At(7)
	b.waiting(2, 1, 1)
	b.receive(2, 1, "ab", 4, api.StatusOK)
	b.waiting(2, 1, 0)
	b.waiting(1, 1, 1)
	b.x.At(20)
	b.receive(1, 1, "ab", 17, api.StatusStale)
	b.send(0, 0, "abcde", api.StatusLong)
	b.send(1, 1, "x", api.StatusNone)
	b.receive(0, 0, "", 0, api.StatusNone)
	b.send(1, 0, "x", api.StatusOK)
	b.send(1, 0, "y", api.StatusFull)
	b.waiting(2, 2, 1)
	b.receive(2, 2, "x", 0, api.StatusOK)
	b.receive(2, 2, "", 0, api.StatusEmpty)
	b.waiting(2, 2, 0)
}

func TestP20_2And3Edges(t *testing.T) {
	b := bench{t, fresh(t, example(), 3)}
	b.receive(1, 1, "", 0, api.StatusEmpty)
	b.waiting(1, 1, 0)
	b.waiting(0, 0, 0)
	b.waiting(1, 0, 0)
	b.send(1, 0, "abcde", api.StatusLong)
	b.send(1, 0, "abcd", api.StatusOK)
	b.send(1, 0, "abcde", api.StatusLong)
	b.send(1, 0, "", api.StatusFull)
	b.waiting(1, 0, 0) // a source's end
	for _, e := range []api.End{end(0, 1), end(0, 16), end(3, 0), end(255, 255), end(2, 0)} {
		b.send(e.Guest, e.Port, "x", api.StatusNone)
		b.send(e.Guest, e.Port, strings.Repeat("x", 99), api.StatusNone)
		b.receive(e.Guest, e.Port, "", 0, api.StatusNone)
		b.waiting(e.Guest, e.Port, 0)
	}
	b.send(2, 2, "x", api.StatusNone)
	b.receive(1, 0, "", 0, api.StatusNone)
	b.x.At(10)
	b.send(0, 0, "", api.StatusOK) // an empty message is one
	b.waiting(1, 1, 1)
	b.receive(1, 1, "", 0, api.StatusOK)
	b.waiting(1, 1, 0)
	b.x.At(15)
	b.receive(1, 1, "", 5, api.StatusOK)
	b.x.At(16)
	b.receive(1, 1, "", 6, api.StatusStale)
	b.x.At(4)
	b.receive(2, 1, "", 0, api.StatusOK)
	b.x.At(1<<64 - 1)
	b.receive(2, 1, "", 1<<64-11, api.StatusStale)
	b.receive(2, 2, "abcd", 0, api.StatusOK) // of a queuing one the age is 0
}

func TestP20_4Reaches(t *testing.T) {
	x := fresh(t, example(), 3)
	for _, c := range []struct {
		a, b uint8
		want bool
	}{
		{0, 2, true}, {2, 1, true}, {2, 0, false}, {0, 0, true}, {0, 1, true}, {1, 0, false}, {1, 2, true}, {2, 2, true}, {1, 1, true},
		{3, 3, false}, {0, 3, false}, {3, 0, false}, {255, 255, false}, {16, 16, false}, {0, 16, false},
	} {
		if got := x.Reaches(c.a, c.b); got != c.want {
			t.Errorf("Reaches(%d, %d) = %v", c.a, c.b, got)
		}
	}
	var l []api.Channel
	for g := range uint8(15) { // a chain of 16 guests, told from its end
		l = append([]api.Channel{sampling(g, 0, 1, 0, end(g+1, 1))}, l...)
	}
	for _, back := range []bool{false, true} {
		if back {
			l[7] = queuing(7, 0, 1, 1, end(8, 1))
		}
		x = fresh(t, l, 16)
		for a := range uint8(16) {
			for b := range uint8(16) {
				want := a <= b || back && a == 8 && b == 7
				if got := x.Reaches(a, b); got != want {
					t.Errorf("a chain: Reaches(%d, %d) = %v", a, b, got)
				}
			}
		}
	}
}

// reach is told by going from guest to guest.
func reach(l []api.Channel, guests int) map[[2]uint8]bool {
	m := map[[2]uint8]bool{}
	for a := range uint8(guests) {
		seen := map[uint8]bool{a: true}
		todo := []uint8{a}
		for len(todo) > 0 {
			at := todo[0]
			todo = todo[1:]
			for _, c := range l {
				for _, e := range c.To {
					if c.Guest == at && !seen[e.Guest] {
						seen[e.Guest] = true
						todo = append(todo, e.Guest)
					}
					if c.Kind == 1 && e.Guest == at && !seen[c.Guest] {
						seen[c.Guest] = true
						todo = append(todo, c.Guest)
					}
				}
			}
		}
		for b := range seen {
			m[[2]uint8{a, b}] = true
		}
	}
	return m
}

type random uint64

func (r *random) below(n int) int {
	*r = *r*6364136223846793005 + 1442695040888963407
	return int(uint64(*r>>20) % uint64(n))
}

func someTable(r *random, guests int) []api.Channel {
	var l []api.Channel
	for range r.below(12) {
		c := api.Channel{Kind: uint8(r.below(2)), Guest: uint8(r.below(guests)), Port: uint8(r.below(16)), Most: uint8(1 + r.below(6))}
		n := 1
		if c.Kind == 1 {
			c.Depth = uint8(1 + r.below(3))
		} else {
			c.Validity = uint32(r.below(6))
			n += r.below(4)
		}
		for range n {
			c.To = append(c.To, end(uint8(r.below(guests)), uint8(r.below(16))))
		}
		if channel.Check(append(l, c), guests) == api.OK {
			l = append(l, c)
		}
	}
	return l
}

func TestP20_4ReachesModel(t *testing.T) {
	r := random(2)
	for range 500 {
		guests := 1 + r.below(16)
		l := someTable(&r, guests)
		x := fresh(t, l, guests)
		want := reach(l, guests)
		for a := range uint8(18) {
			for b := range uint8(18) {
				if got := x.Reaches(a, b); got != want[[2]uint8{a, b}] {
					t.Fatalf("%+v: Reaches(%d, %d) = %v", l, a, b, got)
				}
			}
		}
	}
}

func TestP20_4LinkDumpAndNil(t *testing.T) {
	x := fresh(t, example(), 3)
	if x.Dump() != "\x01\x00-\x01\x00\x00" {
		t.Errorf("Dump at first: %q", x.Dump())
	}
	x.At(9)
	l0, l1, l2 := x.Link(0), x.Link(1), x.Link(2)
	if l0.Send(0, "ab") != api.StatusOK || l1.Send(0, "xyz") != api.StatusOK || l1.Send(0, "q") != api.StatusFull || l0.Send(1, "ab") != api.StatusNone {
		t.Error("sends by links")
	}
	if l2.Waiting(1) != 1 || l2.Waiting(2) != 1 || l2.Waiting(0) != 0 || l1.Waiting(1) != 1 {
		t.Error("Waiting by links")
	}
	if x.Dump() != "\x09\x009 6162 11\x05\x00\x01\x03xyz" {
		t.Errorf("Dump: %q", x.Dump())
	}
	x.At(11)
	if s, age, status := l2.Receive(1); s != "ab" || age != 2 || status != api.StatusOK {
		t.Errorf("Receive by a link: %q, %d, %d", s, age, status)
	}
	if s, age, status := l2.Receive(2); s != "xyz" || age != 0 || status != api.StatusOK {
		t.Errorf("Receive by a link: %q, %d, %d", s, age, status)
	}
	if x.Dump() != "\x09\x009 6162 10\x01\x00\x00" {
		t.Errorf("Dump: %q", x.Dump())
	}
	for _, g := range []uint8{3, 16, 255} {
		if x.Link(g) != nil {
			t.Errorf("Link(%d) is one", g)
		}
	}
	if s := fresh(t, nil, 1).Dump(); s != "" {
		t.Errorf("Dump of no channels: %q", s)
	}
	long := fresh(t, []api.Channel{queuing(0, 0, 64, 16, end(0, 1))}, 1)
	for range 16 {
		long.Send(0, 0, strings.Repeat("m", 64))
	}
	if s := long.Dump(); len(s) != 2+1+16*65 || s[0] != 0x11 || s[1] != 0x04 {
		t.Errorf("Dump of a long one: %d bytes, % x", len(s), s[:2])
	}
}

func TestP20_4NothingMade(t *testing.T) {
	for name, x := range map[string]*channel.Table{"nil": nil, "not made": {}} {
		b := bench{t, x}
		x.At(4)
		b.send(0, 0, "", api.StatusNone)
		b.receive(0, 0, "", 0, api.StatusNone)
		b.waiting(0, 0, 0)
		if x.Reaches(0, 0) || x.Link(0) != nil || x.Dump() != "" {
			t.Errorf("%s: something is there", name)
		}
	}
	for name, l := range map[string]*channel.Link{"nil": nil, "not made": {}} {
		s, age, status := l.Receive(0)
		if l.Send(0, "") != api.StatusNone || s != "" || age != 0 || status != api.StatusNone || l.Waiting(0) != 0 {
			t.Errorf("a link, %s: something is there", name)
		}
	}
}

// lane is a model's channel.
type lane struct {
	c      api.Channel
	queue  []string
	has    bool
	at     uint64
	s      string
	unread map[api.End]bool
}

func (l *lane) send(now uint64, s string) uint8 {
	switch {
	case len(s) > int(l.c.Most):
		return api.StatusLong
	case l.c.Kind == 0:
		l.has, l.at, l.s, l.unread = true, now, s, map[api.End]bool{}
		for _, e := range l.c.To {
			l.unread[e] = true
		}
	case len(l.queue) == int(l.c.Depth):
		return api.StatusFull
	default:
		l.queue = append(l.queue, s)
	}
	return api.StatusOK
}

func (l *lane) receive(e api.End, now uint64) (string, uint64, uint8) {
	switch {
	case l.c.Kind == 1 && len(l.queue) == 0, l.c.Kind == 0 && !l.has:
		return "", 0, api.StatusEmpty
	case l.c.Kind == 1:
		s := l.queue[0]
		l.queue = l.queue[1:]
		return s, 0, api.StatusOK
	}
	delete(l.unread, e)
	if now-l.at > uint64(l.c.Validity) {
		return l.s, now - l.at, api.StatusStale
	}
	return l.s, now - l.at, api.StatusOK
}

// TestP20_5And6Model: random tables under random use; each end is told what its channel alone says.
func TestP20_5And6Model(t *testing.T) {
	r := random(4)
	for range 150 {
		guests := 1 + r.below(5)
		l := someTable(&r, guests)
		b := bench{t, fresh(t, l, guests)}
		from, to := map[api.End]*lane{}, map[api.End]*lane{}
		var used []api.End
		for _, c := range l {
			x := &lane{c: c}
			from[end(c.Guest, c.Port)] = x
			used = append(append(used, end(c.Guest, c.Port)), c.To...)
			for _, e := range c.To {
				to[e] = x
			}
		}
		used = append(used, end(0, 3), end(9, 0))
		now := uint64(0)
		for range 300 {
			now += uint64(r.below(3))
			b.x.At(now)
			e := used[r.below(len(used))]
			s := strings.Repeat(string(rune('a'+r.below(26))), r.below(8))
			if x := from[e]; x != nil {
				b.send(e.Guest, e.Port, s, x.send(now, s))
			} else {
				b.send(e.Guest, e.Port, s, api.StatusNone)
			}
			e = used[r.below(len(used))]
			x := to[e]
			switch {
			case x == nil:
				b.waiting(e.Guest, e.Port, 0)
				b.receive(e.Guest, e.Port, "", 0, api.StatusNone)
			case x.c.Kind == 1:
				b.waiting(e.Guest, e.Port, len(x.queue))
			case x.unread[e]:
				b.waiting(e.Guest, e.Port, 1)
			default:
				b.waiting(e.Guest, e.Port, 0)
			}
			if x != nil && r.below(2) == 0 {
				s, age, status := x.receive(e, now)
				b.receive(e.Guest, e.Port, s, age, status)
			}
			if t.Failed() {
				t.Fatalf("%+v at %d", l, now)
			}
		}
	}
}

// TestP20_5WhoDoesNotReach: a guest that does not reach another one makes no difference to it; shown by two tables of the same channels, in which it does something else.
func TestP20_5WhoDoesNotReach(t *testing.T) {
	r := random(6)
	for range 200 {
		guests := 2 + r.below(4)
		l := someTable(&r, guests)
		x, y := fresh(t, l, guests), fresh(t, l, guests)
		g := uint8(r.below(guests))
		for now := range uint64(200) {
			x.At(now)
			y.At(now)
			who, port := uint8(r.below(guests)), uint8(r.below(16))
			s := strings.Repeat("m", r.below(4))
			if !x.Reaches(who, g) {
				x.Send(who, port, s)
				y.Receive(who, port)
				continue
			}
			a := []any{x.Send(who, port, s), y.Send(who, port, s)}
			s1, age1, st1 := x.Receive(who, port)
			s2, age2, st2 := y.Receive(who, port)
			p, q := x.Waiting(who, port), y.Waiting(who, port)
			if a[0] != a[1] || !reflect.DeepEqual([]any{s1, age1, st1, p}, []any{s2, age2, st2, q}) {
				t.Fatalf("%+v: guest %d is told otherwise for guest %d", l, who, g)
			}
		}
	}
}
