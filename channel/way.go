package channel

import (
	"almonry/api"
	"almonry/queue"
	"almonry/sample"
)

// way is what both kinds of channels do.
type way interface {
	send(now uint64, s string) uint8
	receive(number int, now uint64) (s string, age uint64, status uint8)
	waiting(number int) int
	dump() string
}

// wayOf makes the way of a channel that may be.
func wayOf(c api.Channel) way {
	if c.Kind == queuing {
		q, _ := queue.New(c.Depth, c.Most)
		return queued{q}
	}
	x, _ := sample.New(int(c.Most), c.Validity, len(c.To))
	return sampled{x}
}

// sampled shows its latest message.
type sampled struct{ c *sample.Channel }

func (w sampled) send(now uint64, s string) uint8 {
	switch w.c.Write(now, s) {
	case api.OK:
		return api.StatusOK
	case api.ErrLong:
		return api.StatusLong
	}
	return api.StatusNone
}

func (w sampled) receive(number int, now uint64) (s string, age uint64, status uint8) {
	got, e := w.c.Read(number, now)
	switch {
	case e == api.ErrEmpty:
		return "", 0, api.StatusEmpty
	case e != api.OK:
		return "", 0, api.StatusNone
	case got.Stale:
		return got.S, got.Age, api.StatusStale
	}
	return got.S, got.Age, api.StatusOK
}

func (w sampled) waiting(number int) int {
	if w.c.Fresh(number) {
		return 1
	}
	return 0
}

func (w sampled) dump() string { return w.c.Text() }

// queued keeps its messages in order.
type queued struct{ q *queue.Queue }

func (w queued) send(_ uint64, s string) uint8 { return w.q.Send(s) }

func (w queued) receive(int, uint64) (s string, age uint64, status uint8) {
	s, status = w.q.Receive()
	return s, 0, status
}

func (w queued) waiting(int) int { return w.q.Waiting() }

func (w queued) dump() string { return w.q.Dump() }
