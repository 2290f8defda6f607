package event_test

import (
	"slices"
	"testing"

	"almonry/api"
	"almonry/event"
)

func ev(t uint32, guest, kind uint8, value uint32) api.Event {
	return api.Event{T: t, Guest: guest, Kind: kind, Value: value}
}

func bytesOf(x api.Event) string {
	return string([]byte{byte(x.T), byte(x.T >> 8), byte(x.T >> 16), byte(x.T >> 24), x.Guest, x.Kind, byte(x.Value), byte(x.Value >> 8), byte(x.Value >> 16), byte(x.Value >> 24)})
}

func all(l []api.Event) (s string) {
	for _, x := range l {
		s += bytesOf(x)
	}
	return s
}

func example() []api.Event {
	return []api.Event{ev(5, 1, api.Input, 97), ev(4, 1, api.Input, 98), ev(5, 2, api.Input, 1), ev(6, 0, api.Line, 9), ev(7, 0, api.Line, 7), ev(9, 1, api.Delay, 3)}
}

func parse(t *testing.T, s string, guests int, kept []api.Event, dropped []event.Drop) {
	t.Helper()
	k, d := event.Parse(s, guests)
	if !slices.Equal(k, kept) || !slices.Equal(d, dropped) {
		t.Errorf("Parse(%q, %d) = %v, %v; want %v, %v", s, guests, k, d, kept, dropped)
	}
}

func TestP30_1Example(t *testing.T) {
	l := example()
	parse(t, all(l)+"abc", 2, []api.Event{l[0], l[3], l[5]}, []event.Drop{{N: 1, Why: event.Late}, {N: 2, Why: event.Unknown}, {N: 4, Why: event.Malformed}, {N: 6, Why: event.Malformed}})
	if event.Malformed != 1 || event.Unknown != 2 || event.Late != 3 {
		t.Error("the reasons are numbered")
	}
}

func TestP30_1Values(t *testing.T) {
	for kind := range 256 {
		for _, v := range []uint32{0, 1, 7, 8, 9, 15, 16, 255, 256, 257, 264, 65535, 65536, 65537, 1 << 24, 1<<32 - 1} {
			ok := kind == api.Input && v <= 255 || kind == api.Line && v >= 8 && v <= 15 || kind == api.Delay && v <= 65535
			x := ev(3, 0, uint8(kind), v)
			if ok {
				parse(t, bytesOf(x), 1, []api.Event{x}, nil)
			} else {
				parse(t, bytesOf(x), 1, nil, []event.Drop{{N: 0, Why: 1}})
				x.Guest = 9 // malformed goes ahead of unknown
				parse(t, bytesOf(x), 1, nil, []event.Drop{{N: 0, Why: 1}})
			}
			line, high := event.Which(ev(9, 7, uint8(kind), v))
			want, wantHigh := 0, false
			if ok && kind == api.Line {
				want, wantHigh = int(v/2), v%2 == 1
			}
			if line != want || high != wantHigh {
				t.Errorf("Which(kind %d, %d) = %d, %v", kind, v, line, high)
			}
		}
	}
}

func TestP30_1Torn(t *testing.T) {
	x := ev(3, 0, api.Input, 97)
	parse(t, "", 1, nil, nil)
	for n := 1; n < 10; n++ {
		parse(t, bytesOf(x)[:n], 1, nil, []event.Drop{{N: 0, Why: 1}})
		parse(t, bytesOf(x)+bytesOf(x)+bytesOf(x)[:n], 1, []api.Event{x, x}, []event.Drop{{N: 2, Why: 1}})
	}
}

func TestP30_1Guests(t *testing.T) {
	for _, guests := range []int{-1 << 63, -1, 0, 1, 2, 16, 255, 256, 1 << 40} {
		for _, g := range []uint8{0, 1, 2, 15, 16, 254, 255} {
			x := ev(3, g, api.Input, 97)
			if int(g) < guests {
				parse(t, bytesOf(x), guests, []api.Event{x}, nil)
			} else {
				parse(t, bytesOf(x), guests, nil, []event.Drop{{N: 0, Why: 2}})
			}
		}
	}
}

func TestP30_1Late(t *testing.T) {
	late := event.Drop{N: 1, Why: 3}
	a := ev(1<<32-1, 0, api.Input, 1)
	for _, b := range []api.Event{ev(1<<32-2, 0, api.Delay, 1), ev(0, 0, api.Line, 8), ev(1<<31, 0, api.Input, 9)} {
		parse(t, bytesOf(a)+bytesOf(b), 2, []api.Event{a}, []event.Drop{late})
	}
	same := ev(1<<32-1, 0, api.Delay, 5)
	parse(t, bytesOf(a)+bytesOf(same), 2, []api.Event{a, same}, nil)
	other := ev(0, 1, api.Input, 5)
	parse(t, bytesOf(a)+bytesOf(other), 2, []api.Event{a, other}, nil)
	// What is dropped makes no difference to what is late.
	mal, unk := ev(9, 0, 7, 1), ev(9, 2, api.Input, 1)
	x, y, z := ev(5, 0, api.Input, 1), ev(6, 0, api.Input, 2), ev(4, 0, api.Input, 3)
	parse(t, all([]api.Event{mal, unk, x, z, y}), 2, []api.Event{x, y}, []event.Drop{{N: 0, Why: 1}, {N: 1, Why: 2}, {N: 3, Why: 3}})
	mal.T = 4 // malformed goes ahead of late
	parse(t, all([]api.Event{x, mal}), 2, []api.Event{x}, []event.Drop{{N: 1, Why: 1}})
}

func TestP30_1Build(t *testing.T) {
	l := []api.Event{ev(0x04030201, 5, 6, 0x0a090807), ev(0, 255, 255, 1<<32-1)}
	if s := event.Build(l); s != "\x01\x02\x03\x04\x05\x06\x07\x08\x09\x0a\x00\x00\x00\x00\xff\xff\xff\xff\xff\xff" {
		t.Errorf("Build %q", s)
	}
	if event.Build(nil) != "" {
		t.Error("Build of nothing")
	}
}

func due(t *testing.T, q *event.Queue, at uint64, want ...api.Event) {
	t.Helper()
	if got := q.Due(at); !slices.Equal(got, want) {
		t.Errorf("Due(%d) = %v, want %v", at, got, want)
	}
}

func TestP30_2Example(t *testing.T) {
	l := example()
	q := event.New([]api.Event{l[0], l[3], l[5]})
	due(t, q, 4)
	due(t, q, 5, l[0])
	due(t, q, 8, l[3])
	if q.Left() != 1 {
		t.Errorf("Left %d", q.Left())
	}
	due(t, q, 100, l[5])
	due(t, q, 1<<64-1)
	if q.Left() != 0 {
		t.Errorf("Left %d", q.Left())
	}
	if line, high := event.Which(l[3]); line != 4 || !high {
		t.Errorf("Which: %d, %v", line, high)
	}
	if line, high := event.Which(l[0]); line != 0 || high {
		t.Errorf("Which: %d, %v", line, high)
	}
}

func TestP30_2Queue(t *testing.T) {
	var none *event.Queue
	due(t, none, 9)
	if none.Left() != 0 {
		t.Error("Left of nil")
	}
	due(t, event.New(nil), 9)
	// In their order, whatever their times; each once.
	l := []api.Event{ev(7, 0, 1, 1), ev(3, 1, 1, 2), ev(7, 1, 1, 3), ev(1, 0, 1, 4), ev(1<<32-1, 2, 9, 5), ev(3, 0, 1, 6)}
	q := event.New(l)
	if q.Left() != 6 {
		t.Errorf("Left %d", q.Left())
	}
	l[3] = ev(0, 9, 9, 9) // what is handed in is not kept
	due(t, q, 0)
	due(t, q, 3, ev(3, 1, 1, 2), ev(1, 0, 1, 4), ev(3, 0, 1, 6))
	due(t, q, 3)
	due(t, q, 0)
	due(t, q, 1<<32-2, ev(7, 0, 1, 1), ev(7, 1, 1, 3))
	if q.Left() != 1 {
		t.Errorf("Left %d", q.Left())
	}
	due(t, q, 1<<32, ev(1<<32-1, 2, 9, 5))
	l = []api.Event{ev(7, 0, 1, 1), ev(3, 1, 1, 2), ev(7, 1, 1, 3)}
	due(t, event.New(l), 9, l...)
	a, b := event.New(l), event.New(l)
	a.Due(9)
	due(t, b, 9, l...)
}

type random uint64

func (r *random) below(n uint64) uint64 {
	*r = *r*6364136223846793005 + 1442695040888963407
	return uint64(*r>>20) % n
}

func someRecords(r *random) string {
	var l []api.Event
	for range r.below(30) {
		x := ev(uint32(r.below(20)), uint8(r.below(4)), uint8(r.below(5)), uint32(r.below(20)))
		if r.below(8) == 0 {
			x.Value = uint32(r.below(1 << 18))
		}
		l = append(l, x)
	}
	s := all(l)
	return s + "torn at last"[:r.below(10)]
}

func TestP30_3And4Properties(t *testing.T) {
	r := random(1)
	for range 2000 {
		s := someRecords(&r)
		kept, dropped := event.Parse(s, 3)
		n := (len(s) + 9) / 10
		if len(kept)+len(dropped) != n {
			t.Fatalf("%q: %d kept, %d dropped", s, len(kept), len(dropped))
		}
		last := map[uint8]uint32{}
		i, k := 0, 0
		for at := range n { // each is kept or dropped, in order
			if i < len(dropped) && dropped[i].N == at {
				i++
				continue
			}
			if k >= len(kept) || bytesOf(kept[k]) != s[10*at:10*at+10] {
				t.Fatalf("%q: %v, %v", s, kept, dropped)
			}
			if kept[k].T < last[kept[k].Guest] || kept[k].Guest >= 3 {
				t.Fatalf("%q: %v", s, kept)
			}
			last[kept[k].Guest] = kept[k].T
			k++
		}
		parse(t, event.Build(kept), 3, kept, nil)
		// Each guest's as they would be without the others'.
		for g := range uint8(4) {
			only, places := "", []int{}
			for at := range len(s) / 10 {
				if s[10*at+4] == g {
					only += s[10*at : 10*at+10]
					places = append(places, at)
				}
			}
			wantK := slices.DeleteFunc(slices.Clone(kept), func(x api.Event) bool { return x.Guest != g })
			gotK, gotD := event.Parse(only, 3)
			if !slices.Equal(gotK, wantK) {
				t.Fatalf("%q: guest %d alone keeps %v, with others %v", s, g, gotK, wantK)
			}
			for _, d := range gotD {
				if !slices.Contains(dropped, event.Drop{N: places[d.N], Why: d.Why}) {
					t.Fatalf("%q: guest %d alone drops %v", s, g, d)
				}
			}
		}
		// Bytes behind make no difference.
		whole := s[:len(s)/10*10]
		k1, d1 := event.Parse(whole, 3)
		k2, d2 := event.Parse(whole+someRecords(&r), 3)
		if !slices.Equal(k1, k2[:len(k1)]) || !slices.Equal(d1, d2[:len(d1)]) {
			t.Fatalf("%q: what stands behind makes a difference", whole)
		}
	}
}

func TestP30_5EachOnce(t *testing.T) {
	r := random(2)
	for range 500 {
		var l []api.Event
		for i := range r.below(30) {
			l = append(l, ev(uint32(r.below(20)), uint8(r.below(3)), uint8(r.below(5)), uint32(i)))
		}
		q := event.New(l)
		told := map[uint32]bool{}
		for now := uint64(0); now < 25; now += 1 + r.below(3) {
			var want []api.Event
			for _, x := range l {
				if uint64(x.T) <= now && !told[x.Value] {
					want = append(want, x)
					told[x.Value] = true
				}
			}
			due(t, q, now, want...)
			if q.Left() != len(l)-len(told) {
				t.Fatalf("Left %d", q.Left())
			}
		}
	}
}
