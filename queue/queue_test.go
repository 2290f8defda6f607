package queue_test

import (
	"slices"
	"strings"
	"testing"

	"almonry/api"
	"almonry/queue"
)

func fresh(t *testing.T, depth, most uint8) *queue.Queue {
	t.Helper()
	q, e := queue.New(depth, most)
	if q == nil || e != api.OK {
		t.Fatalf("New(%d, %d) = %v, %v", depth, most, q, e)
	}
	return q
}

func send(t *testing.T, q *queue.Queue, s string, want uint8) {
	t.Helper()
	if got := q.Send(s); got != want {
		t.Errorf("Send(%q) = %d, want %d", s, got, want)
	}
}

func receive(t *testing.T, q *queue.Queue, s string, want uint8) {
	t.Helper()
	if got, status := q.Receive(); got != s || status != want {
		t.Errorf("Receive = %q, %d; want %q, %d", got, status, s, want)
	}
}

func TestP19_1New(t *testing.T) {
	for depth := range 256 {
		for _, most := range []uint8{0, 1, 3, 64, 65, 255} {
			q, e := queue.New(uint8(depth), most)
			if depth >= 1 && depth <= 16 && most >= 1 && most <= 64 {
				if q == nil || e != api.OK || q.Waiting() != 0 || q.Room() != depth || q.Dump() != "\x00" {
					t.Errorf("New(%d, %d): %v", depth, most, e)
				}
			} else if q != nil || e != api.ErrArg {
				t.Errorf("New(%d, %d) = %v, %v", depth, most, q, e)
			}
		}
	}
}

func TestP19_1And2Examples(t *testing.T) {
	q := fresh(t, 2, 3)
	send(t, q, "ab", api.StatusOK)
	send(t, q, "", api.StatusOK)
	send(t, q, "c", api.StatusFull)
	send(t, q, "abcd", api.StatusLong)
	if q.Waiting() != 2 || q.Room() != 0 {
		t.Errorf("Waiting %d, Room %d", q.Waiting(), q.Room())
	}
	if q.Dump() != "\x02\x02ab\x00" {
		t.Errorf("Dump %q", q.Dump())
	}
	receive(t, q, "ab", api.StatusOK)
	receive(t, q, "", api.StatusOK)
	receive(t, q, "", api.StatusEmpty)
	if q.Waiting() != 0 || q.Room() != 2 {
		t.Errorf("Waiting %d, Room %d", q.Waiting(), q.Room())
	}
}

func TestP19_1Nil(t *testing.T) {
	for name, q := range map[string]*queue.Queue{"nil": nil, "not made": {}} {
		send(t, q, "", api.StatusNone)
		send(t, q, "a long message", api.StatusNone)
		receive(t, q, "", api.StatusNone)
		if q.Waiting() != 0 || q.Room() != 0 || q.Copy() != nil || q.Dump() != "" {
			t.Errorf("%s: something is there", name)
		}
		for s := range q.All() {
			t.Errorf("%s: a message %q", name, s)
		}
	}
}

func TestP19_1LongAheadOfFull(t *testing.T) {
	q := fresh(t, 1, 64)
	m := strings.Repeat("m", 64)
	send(t, q, m+"m", api.StatusLong)
	send(t, q, m, api.StatusOK)
	send(t, q, m+"m", api.StatusLong)
	send(t, q, m, api.StatusFull)
	receive(t, q, m, api.StatusOK)
}

func TestP19_2All(t *testing.T) {
	q := fresh(t, 4, 3)
	for _, s := range []string{"x", "a", "b", "c"} {
		send(t, q, s, api.StatusOK)
	}
	receive(t, q, "x", api.StatusOK)
	send(t, q, "d", api.StatusOK) // round the ring's end
	want := []string{"a", "b", "c", "d"}
	all := q.All()
	if got := slices.Collect(all); !slices.Equal(got, want) {
		t.Errorf("All: %q", got)
	}
	var got []string
	for s := range q.All() { // those of when the loop begins
		got = append(got, s)
		q.Receive()
		q.Send("new")
	}
	if !slices.Equal(got, want) {
		t.Errorf("All, of a queue that changes meanwhile: %q", got)
	}
	if got := slices.Collect(all); !slices.Equal(got, []string{"new", "new", "new", "new"}) {
		t.Errorf("All, told ahead of a change: %q", got)
	}
	n := 0
	for range q.All() {
		if n++; n == 2 {
			break
		}
	}
	if n != 2 || q.Waiting() != 4 {
		t.Errorf("a loop that ends ahead: %d, %d", n, q.Waiting())
	}
}

func TestP19_2Copy(t *testing.T) {
	q := fresh(t, 3, 3)
	send(t, q, "a", api.StatusOK)
	send(t, q, "b", api.StatusOK)
	c := q.Copy()
	if c == nil || c == q || c.Dump() != q.Dump() || c.Room() != 1 {
		t.Fatal("Copy isn't the same")
	}
	receive(t, c, "a", api.StatusOK)
	send(t, c, "x", api.StatusOK)
	send(t, c, "y", api.StatusOK)
	send(t, c, "abcd", api.StatusLong)
	if q.Dump() != "\x02\x01a\x01b" || c.Dump() != "\x03\x01b\x01x\x01y" {
		t.Errorf("%q, %q", q.Dump(), c.Dump())
	}
	send(t, q, "z", api.StatusOK)
	if c.Dump() != "\x03\x01b\x01x\x01y" {
		t.Errorf("%q", c.Dump())
	}
}

func TestP19_3Load(t *testing.T) {
	long := strings.Repeat("m", 64)
	for _, c := range []struct {
		depth, most uint8
		s           string
		e           api.Errno
	}{
		{2, 3, "\x00", api.OK}, {2, 3, "\x02\x02ab\x00", api.OK}, {2, 3, "\x02\x03abc\x03def", api.OK}, {16, 64, "\x01\x40" + long, api.OK}, {16, 1, "\x10" + strings.Repeat("\x01x", 16), api.OK},
		{0, 3, "", api.ErrArg}, {17, 3, "\x00", api.ErrArg}, {2, 65, "\x00", api.ErrArg}, {2, 0, "\x03", api.ErrArg},
		{2, 3, "", api.ErrTorn}, {2, 3, "\x01", api.ErrTorn}, {2, 3, "\x01\x02a", api.ErrTorn}, {2, 3, "\x01\x01", api.ErrTorn}, {2, 3, "\x02\x01a", api.ErrTorn}, {2, 3, "\x02\x01a\x03bc", api.ErrTorn},
		{2, 3, "\x03", api.ErrForm}, {2, 3, "\x03\x00\x00\x00", api.ErrForm}, {2, 3, "\xff", api.ErrForm}, {2, 3, "\x01\x04", api.ErrForm}, {2, 3, "\x01\x04abcd", api.ErrForm}, {2, 3, "\x02\x01a\x04", api.ErrForm},
		{2, 3, "\x00\x00", api.ErrForm}, {2, 3, "\x01\x01ab", api.ErrForm}, {2, 3, "\x01\x00\x00", api.ErrForm}, {16, 64, "\x01\x41" + long + "m", api.ErrForm}, {16, 1, "\x11", api.ErrForm}, {1, 3, "\x02\x00\x00", api.ErrForm},
	} {
		q, e := queue.Load(c.depth, c.most, c.s)
		if e != c.e || (q != nil) != (c.e == api.OK) {
			t.Errorf("Load(%d, %d, %q): %v, want %v", c.depth, c.most, c.s, e, c.e)
			continue
		}
		if q != nil && (q.Dump() != c.s || q.Waiting()+q.Room() != int(c.depth)) {
			t.Errorf("Load(%d, %d, %q): Dump %q", c.depth, c.most, c.s, q.Dump())
		}
	}
	q, _ := queue.Load(2, 3, "\x02\x02ab\x00")
	send(t, q, "c", api.StatusFull)
	send(t, q, "abcd", api.StatusLong)
	receive(t, q, "ab", api.StatusOK)
	receive(t, q, "", api.StatusOK)
	receive(t, q, "", api.StatusEmpty)
}

func TestP19_4And5Model(t *testing.T) {
	n := uint64(1)
	next := func(end uint64) uint64 {
		n = n*6364136223846793005 + 1442695040888963407
		return (n >> 20) % end
	}
	for _, depth := range []uint8{1, 2, 3, 7, 15, 16} {
		q := fresh(t, depth, 5)
		var want []string
		for step := range 6000 {
			switch next(3) {
			case 0, 1:
				s := strings.Repeat(string(rune('a'+next(26))), int(next(7)))
				status := uint8(api.StatusOK)
				switch {
				case len(s) > 5:
					status = api.StatusLong
				case len(want) == int(depth):
					status = api.StatusFull
				default:
					want = append(want, s)
				}
				send(t, q, s, status)
			case 2:
				if len(want) == 0 {
					receive(t, q, "", api.StatusEmpty)
				} else {
					receive(t, q, want[0], api.StatusOK)
					want = want[1:]
				}
				if next(10) == 0 { // goes on the same from its Dump, or a copy
					back, e := queue.Load(depth, 5, q.Dump())
					if e != api.OK {
						t.Fatalf("Load of Dump: %v", e)
					}
					old := q
					if q = back; next(2) == 0 {
						q = back.Copy()
					}
					old.Receive()
					old.Send("old")
				}
			}
			if got := slices.Collect(q.All()); !slices.Equal(got, want) || q.Waiting() != len(want) || q.Room() != int(depth)-len(want) {
				t.Fatalf("step %d: %q, want %q", step, got, want)
			}
			if t.Failed() {
				t.Fatalf("at step %d", step)
			}
		}
	}
}
