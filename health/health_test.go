package health_test

import (
	"fmt"
	"testing"

	"almonry/api"
	"almonry/health"
)

func example() api.Guest {
	g := api.Guest{Pages: 1, Restart: 2}
	g.Actions[2], g.Actions[5], g.Actions[3], g.Actions[api.Watchdog] = api.Warm, api.Cold, api.Ignore, api.Halt
	return g
}

func fresh(t *testing.T, g api.Guest) *health.Monitor {
	t.Helper()
	m, e := health.New(g)
	if m == nil || e != api.OK {
		t.Fatalf("New = %v, %v", m, e)
	}
	return m
}

func TestP29_1CheckAndNew(t *testing.T) {
	for i := range 17 {
		for a := range 256 {
			var g api.Guest
			g.Actions[i] = uint8(a)
			want := api.OK
			if a > 4 {
				want = api.ErrForm
			}
			if got := health.Check(g); got != want {
				t.Errorf("Check of action %d at %d: %v", a, i, got)
			}
			if m, e := health.New(g); e != want || (m != nil) != (want == api.OK) {
				t.Errorf("New of action %d at %d: %v, %v", a, i, m, e)
			}
		}
	}
	if e := health.Check(api.Guest{Pages: 200, Restart: 255}); e != api.OK {
		t.Errorf("pages are no part of a policy: %v", e)
	}
	m := fresh(t, example())
	if m.Pending() != 0 || m.Halted() || m.Restarts() != 0 || m.Text() != "0 0" || m.Take() != 0 {
		t.Errorf("at first: %q", m.Text())
	}
}

func TestP29_1NothingMade(t *testing.T) {
	for name, m := range map[string]*health.Monitor{"nil": nil, "not made": {}} {
		for fault := range 256 {
			if m.Raise(uint8(fault)) != api.None {
				t.Errorf("%s: Raise(%d)", name, fault)
			}
		}
		if m.Pending() != 0 || m.Take() != 0 || m.Halted() || m.Restarts() != 0 || m.Text() != "" {
			t.Errorf("%s: something is there", name)
		}
	}
}

func TestP29_2Raise(t *testing.T) {
	g := example()
	for fault := range 256 {
		m := fresh(t, g)
		want := uint8(0)
		if fault < 17 {
			want = g.Actions[fault]
		}
		if got := m.Raise(uint8(fault)); got != want {
			t.Errorf("Raise(%d) = %d, want %d", fault, got, want)
		}
		pending := want
		if want < api.Warm {
			pending = 0
		}
		if m.Pending() != pending || m.Text() != fmt.Sprintf("%d 0", pending) {
			t.Errorf("behind Raise(%d): %q", fault, m.Text())
		}
	}
	// The stronger one is pending, in whatever order they come.
	var all api.Guest
	for a := range 5 {
		all.Actions[a] = uint8(a)
	}
	for i := range uint8(5) {
		for j := range uint8(5) {
			m := fresh(t, all)
			m.Raise(i)
			m.Raise(j)
			want := max(i, j)
			if want < api.Warm {
				want = 0
			}
			if m.Pending() != want {
				t.Errorf("Raise(%d), Raise(%d): %d", i, j, m.Pending())
			}
		}
	}
}

func TestP29_2And3Examples(t *testing.T) {
	m := fresh(t, example())
	for _, c := range [][2]uint8{{2, api.Warm}, {5, api.Cold}, {3, api.Ignore}, {1, api.None}} {
		if got := m.Raise(c[0]); got != c[1] {
			t.Errorf("Raise(%d) = %d", c[0], got)
		}
	}
	if m.Pending() != api.Cold || m.Take() != api.Cold || m.Take() != api.None || m.Restarts() != 1 {
		t.Errorf("%q", m.Text())
	}
	if m.Raise(2) != api.Warm || m.Take() != api.Warm || m.Raise(2) != api.Warm || m.Take() != api.Halt || !m.Halted() || m.Restarts() != 2 {
		t.Errorf("%q", m.Text())
	}
	if m.Raise(5) != api.Cold || m.Pending() != api.None || m.Take() != api.None {
		t.Errorf("%q", m.Text())
	}
	if m.Text() != "0 2 halted" {
		t.Errorf("%q", m.Text())
	}
}

func TestP29_3Take(t *testing.T) {
	for _, most := range []uint8{0, 1, 3, 254, 255} {
		g := example()
		g.Restart = most
		m := fresh(t, g)
		for n := range int(most) {
			m.Raise(2)
			if n%2 == 1 {
				m.Raise(5)
			}
			want := uint8(api.Warm + n%2)
			if got := m.Take(); got != want || m.Restarts() != uint8(n+1) || m.Halted() || m.Pending() != 0 {
				t.Fatalf("restart %d of %d: %d, %q", n, most, got, m.Text())
			}
		}
		m.Raise(2)
		if m.Text() != fmt.Sprintf("2 %d", most) {
			t.Errorf("%q", m.Text())
		}
		if got := m.Take(); got != api.Halt || m.Restarts() != most || !m.Halted() || m.Text() != fmt.Sprintf("0 %d halted", most) {
			t.Errorf("the one beyond %d: %d, %q", most, got, m.Text())
		}
	}
	m := fresh(t, example()) // Halt, with restarts left
	m.Raise(api.Watchdog)
	m.Raise(2)
	if m.Pending() != api.Halt || m.Take() != api.Halt || m.Restarts() != 0 || m.Text() != "0 0 halted" {
		t.Errorf("%q", m.Text())
	}
}

func TestP29_4And5Model(t *testing.T) {
	r := uint64(5)
	next := func(end uint64) uint64 {
		r = r*6364136223846793005 + 1442695040888963407
		return (r >> 20) % end
	}
	for range 300 {
		g := api.Guest{Restart: uint8(next(6))}
		for i := range g.Actions {
			g.Actions[i] = uint8(next(4))
			if next(12) == 0 {
				g.Actions[i] = api.Halt
			}
		}
		m := fresh(t, g)
		pending, restarts, halted := uint8(0), uint8(0), false
		for range 60 {
			if next(3) > 0 {
				fault := next(19)
				want := uint8(0)
				if fault < 17 {
					want = g.Actions[fault]
				}
				if got := m.Raise(uint8(fault)); got != want {
					t.Fatalf("Raise(%d) = %d, want %d", fault, got, want)
				}
				if want >= 2 && !halted && want > pending {
					pending = want
				}
			} else {
				want := pending
				switch {
				case pending == 0:
				case pending == 4 || restarts == g.Restart:
					want, halted = 4, true
				default:
					restarts++
				}
				pending = 0
				if got := m.Take(); got != want {
					t.Fatalf("Take = %d, want %d", got, want)
				}
			}
			text := fmt.Sprintf("%d %d", pending, restarts)
			if halted {
				text += " halted"
			}
			if m.Text() != text || m.Pending() != pending || m.Restarts() != restarts || m.Halted() != halted || restarts > g.Restart {
				t.Fatalf("%q, want %q", m.Text(), text)
			}
		}
	}
}
