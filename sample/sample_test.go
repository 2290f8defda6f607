package sample_test

import (
	"fmt"
	"strings"
	"testing"

	"almonry/api"
	"almonry/sample"
)

const all = uint64(1<<64 - 1)

func fresh(t *testing.T, most int, validity uint32, ends int) *sample.Channel {
	t.Helper()
	c, e := sample.New(most, validity, ends)
	if c == nil || e != api.OK {
		t.Fatalf("New(%d, %d, %d) = %v, %v", most, validity, ends, c, e)
	}
	return c
}

func TestP18_1New(t *testing.T) {
	for _, c := range []struct{ most, ends int }{{0, 1}, {65, 1}, {1, 0}, {1, 17}, {-1, 1}, {1, -1}, {1 << 40, 1}, {1, 1 << 40}, {-1 << 63, -1 << 63}, {0, 0}} {
		if x, e := sample.New(c.most, 1, c.ends); x != nil || e != api.ErrArg {
			t.Errorf("New(%d, 1, %d) = %v, %v", c.most, c.ends, x, e)
		}
	}
	for _, c := range []struct{ most, ends int }{{1, 1}, {64, 16}, {64, 1}, {1, 16}} {
		x := fresh(t, c.most, 0, c.ends)
		if x.Text() != "-" {
			t.Errorf("at first: %q", x.Text())
		}
		if e := x.Write(0, strings.Repeat("m", c.most+1)); e != api.ErrLong || x.Text() != "-" {
			t.Errorf("a longer message: %v, %q", e, x.Text())
		}
		if e := x.Write(0, strings.Repeat("m", c.most)); e != api.OK {
			t.Errorf("the longest message: %v", e)
		}
		for end := range c.ends {
			if !x.Fresh(end) {
				t.Errorf("it isn't fresh for %d", end)
			}
		}
		if x.Fresh(c.ends) || x.Fresh(-1) {
			t.Error("fresh for no end")
		}
	}
}

func TestP18_1Nil(t *testing.T) {
	for name, c := range map[string]*sample.Channel{"nil": nil, "not made": {}} {
		if e := c.Write(0, ""); e != api.ErrNil {
			t.Errorf("%s: Write %v", name, e)
		}
		if e := c.Write(0, "long"); e != api.ErrNil {
			t.Errorf("%s: Write of more %v", name, e)
		}
		for _, end := range []int{-1, 0, 99} {
			if g, e := c.Read(end, 5); g != (sample.Got{}) || e != api.ErrNil {
				t.Errorf("%s: Read %v", name, e)
			}
			if c.Fresh(end) {
				t.Errorf("%s: Fresh", name)
			}
		}
		if c.Copy() != nil || c.Text() != "" {
			t.Errorf("%s: Copy, Text", name)
		}
		made, _ := sample.New(1, 1, 1)
		if !sample.Same(c, nil) || !sample.Same(nil, c) || !sample.Same(c, &sample.Channel{}) || sample.Same(c, made) || sample.Same(made, c) {
			t.Errorf("%s: Same", name)
		}
	}
}

func read(t *testing.T, c *sample.Channel, end int, at uint64, want sample.Got, wantE api.Errno) {
	t.Helper()
	if g, e := c.Read(end, at); g != want || e != wantE {
		t.Errorf("Read(%d, %d) = %+v, %v; want %+v, %v", end, at, g, e, want, wantE)
	}
}

func TestP18_2And3Examples(t *testing.T) {
	c := fresh(t, 4, 10, 2)
	read(t, c, 0, 5, sample.Got{}, api.ErrEmpty)
	if c.Fresh(0) {
		t.Error("fresh, without a message")
	}
	if e := c.Write(7, "abcde"); e != api.ErrLong {
		t.Errorf("Write: %v", e)
	}
	if e := c.Write(7, "ab"); e != api.OK || !c.Fresh(0) || !c.Fresh(1) {
		t.Errorf("Write: %v", e)
	}
	read(t, c, 0, 9, sample.Got{S: "ab", Age: 2}, api.OK)
	if c.Fresh(0) || !c.Fresh(1) {
		t.Error("read by 0 alone")
	}
	read(t, c, 0, 17, sample.Got{S: "ab", Age: 10}, api.OK)
	read(t, c, 1, 18, sample.Got{S: "ab", Age: 11, Stale: true}, api.OK)
	read(t, c, 1, 3, sample.Got{S: "ab"}, api.OK)
	if c.Text() != "7 6162 00" {
		t.Errorf("Text: %q", c.Text())
	}
	if e := c.Write(20, ""); e != api.OK || c.Text() != "20 - 11" {
		t.Errorf("Write of nothing: %v, %q", e, c.Text())
	}
	read(t, c, 2, 0, sample.Got{}, api.ErrArg)
	read(t, c, -1, 0, sample.Got{}, api.ErrArg)
	read(t, c, 0, 20, sample.Got{}, api.OK)
}

func TestP18_3Order(t *testing.T) {
	c := fresh(t, 4, 10, 2)
	for _, end := range []int{2, 16, -1, 1 << 40, -1 << 63} { // no such end goes ahead of no message
		read(t, c, end, 0, sample.Got{}, api.ErrArg)
	}
}

func TestP18_2LongChangesNothing(t *testing.T) {
	c := fresh(t, 2, 10, 2)
	c.Write(7, "ab")
	read(t, c, 0, 9, sample.Got{S: "ab", Age: 2}, api.OK)
	if e := c.Write(8, "abc"); e != api.ErrLong || c.Text() != "7 6162 01" {
		t.Errorf("%v, %q", e, c.Text())
	}
	if e := c.Write(7, "ab"); e != api.OK || c.Text() != "7 6162 11" {
		t.Errorf("the same again is fresh again: %v, %q", e, c.Text())
	}
	if e := c.Write(2, "c"); e != api.OK || c.Text() != "2 63 11" {
		t.Errorf("at a moment ahead: %v, %q", e, c.Text())
	}
}

func TestP18_3AgeAndStale(t *testing.T) {
	for _, c := range []struct {
		validity uint32
		at, t    uint64
		age      uint64
		stale    bool
	}{
		{0, 5, 5, 0, false}, {0, 5, 6, 1, true}, {0, 5, 4, 0, false}, {1, 5, 6, 1, false}, {1, 5, 7, 2, true}, {1<<32 - 1, 0, 1<<32 - 1, 1<<32 - 1, false}, {1<<32 - 1, 0, 1 << 32, 1 << 32, true},
		{5, all, all, 0, false}, {5, all, 0, 0, false}, {5, 0, all, all, true}, {5, 1, all, all - 1, true}, {5, all - 5, all, 5, false}, {5, all - 6, all, 6, true},
	} {
		x := fresh(t, 4, c.validity, 1)
		x.Write(c.at, "m")
		read(t, x, 0, c.t, sample.Got{S: "m", Age: c.age, Stale: c.stale}, api.OK)
	}
}

func TestP18_4Text(t *testing.T) {
	c := fresh(t, 64, 1, 16)
	c.Write(all, "\x00\x0f\xf0\xff\x9a")
	c.Read(0, 0)
	c.Read(15, 0)
	c.Read(3, 0)
	if got := c.Text(); got != "18446744073709551615 000ff0ff9a 0110111111111110" {
		t.Errorf("Text: %q", got)
	}
}

func TestP18_4CopyAndSame(t *testing.T) {
	c := fresh(t, 4, 10, 2)
	c.Write(7, "ab")
	d := c.Copy()
	if d == nil || d == c || !sample.Same(c, d) || !sample.Same(d, c) || d.Text() != c.Text() {
		t.Fatal("Copy isn't the same")
	}
	for name, change := range map[string]func(*sample.Channel){
		"a message":      func(c *sample.Channel) { c.Write(7, "ac") },
		"a moment":       func(c *sample.Channel) { c.Write(8, "ab") },
		"who read":       func(c *sample.Channel) { c.Read(0, 0) },
		"who else read":  func(c *sample.Channel) { c.Read(1, 0) },
		"a read by both": func(c *sample.Channel) { c.Read(0, 0); c.Read(1, 0) },
	} {
		d, again := c.Copy(), c.Copy()
		before := c.Text()
		change(d)
		if sample.Same(c, d) || sample.Same(d, c) || c.Text() != before {
			t.Errorf("%s: a change of a copy", name)
		}
		change(again)
		if !sample.Same(again, d) {
			t.Errorf("%s: two copies that are changed alike", name)
		}
	}
	if sample.Same(fresh(t, 4, 10, 2), fresh(t, 5, 10, 2)) || sample.Same(fresh(t, 4, 10, 2), fresh(t, 4, 11, 2)) || sample.Same(fresh(t, 4, 10, 2), fresh(t, 4, 10, 3)) {
		t.Error("channels that were made otherwise are the same")
	}
	if !sample.Same(fresh(t, 4, 10, 2), fresh(t, 4, 10, 2)) {
		t.Error("two new ones")
	}
	empty := fresh(t, 4, 10, 2)
	empty.Write(0, "")
	empty.Read(0, 0)
	empty.Read(1, 0)
	if sample.Same(empty, fresh(t, 4, 10, 2)) {
		t.Error("an empty message is one")
	}
}

func TestP18_5And6Model(t *testing.T) {
	n := uint64(11)
	next := func(end uint64) uint64 {
		n = n*6364136223846793005 + 1442695040888963407
		return (n >> 20) % end
	}
	for _, ends := range []int{1, 3, 16} {
		c := fresh(t, 5, 20, ends)
		has, at, msg := false, uint64(0), ""
		unread := make([]bool, ends)
		now := uint64(0)
		for range 6000 {
			now += next(4)
			end := int(next(uint64(ends)))
			switch next(3) {
			case 0:
				s := strings.Repeat(string(rune('a'+next(26))), int(next(7)))
				e := c.Write(now, s)
				if (e == api.OK) != (len(s) <= 5) {
					t.Fatalf("Write of %d: %v", len(s), e)
				}
				if e == api.OK {
					has, at, msg = true, now, s
					for i := range unread {
						unread[i] = true
					}
				}
			case 1:
				if has {
					read(t, c, end, now, sample.Got{S: msg, Age: now - at, Stale: now-at > 20}, api.OK)
				} else {
					read(t, c, end, now, sample.Got{}, api.ErrEmpty)
				}
				unread[end] = false
			}
			text := "-"
			if has {
				digits := ""
				for i := range unread {
					if c.Fresh(i) != unread[i] {
						t.Fatalf("Fresh(%d)", i)
					}
					digits += map[bool]string{true: "1", false: "0"}[unread[i]]
				}
				hex := fmt.Sprintf("%x", msg)
				if msg == "" {
					hex = "-"
				}
				text = fmt.Sprintf("%d %s %s", at, hex, digits)
			}
			if c.Text() != text {
				t.Fatalf("Text %q, want %q", c.Text(), text)
			}
		}
	}
}
