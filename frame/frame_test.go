package frame_test

import (
	"fmt"
	"slices"
	"strings"
	"testing"

	"almonry/api"
	"almonry/frame"
)

const (
	nobody = api.Nobody
	last   = uint64(1<<64 - 1)
)

func win(guest uint8, steps uint16) api.Window { return api.Window{Guest: guest, Steps: steps} }

func example() []api.Window { return []api.Window{win(0, 2), win(1, 1), win(nobody, 1), win(0, 1)} }

func fresh(t *testing.T, l []api.Window, guests int) *frame.Table {
	t.Helper()
	x, e := frame.New(l, guests)
	if x == nil || e != api.OK {
		t.Fatalf("New = %v, %v", x, e)
	}
	return x
}

func many(n int, steps uint16) []api.Window {
	var l []api.Window
	for range n {
		l = append(l, win(0, steps))
	}
	return l
}

func all16() []api.Window {
	var l []api.Window
	for g := range uint8(16) {
		l = append(l, win(g, 64))
	}
	return l
}

func TestP27_1Check(t *testing.T) {
	for _, c := range []struct {
		name   string
		l      []api.Window
		guests int
		e      api.Errno
	}{
		{"the example", example(), 2, api.OK},
		{"the example, 3 guests", example(), 3, api.ErrNone},
		{"the example, 1 guest", example(), 1, api.ErrRange},
		{"no guests", nil, 0, api.ErrArg},
		{"guests below 0", example(), -1, api.ErrArg},
		{"17 guests", all16(), 17, api.ErrArg},
		{"256 guests", example(), 256, api.ErrArg},
		{"16 guests", all16(), 16, api.OK},
		{"no window", nil, 1, api.ErrNone},
		{"an empty list", []api.Window{}, 16, api.ErrNone},
		{"one window", many(1, 1), 1, api.OK},
		{"32 windows", many(32, 1), 1, api.OK},
		{"33 windows", many(33, 1), 1, api.ErrLong},
		{"33 windows that may not be", append([]api.Window{win(9, 0)}, many(32, 1)...), 1, api.ErrLong},
		{"a guest that is none", []api.Window{win(1, 1)}, 1, api.ErrRange},
		{"254", []api.Window{win(0, 1), win(254, 1)}, 1, api.ErrRange},
		{"16 of 16", append(all16()[:15:15], win(15, 1), win(16, 1)), 16, api.ErrRange},
		{"range ahead of no step", []api.Window{win(1, 0)}, 1, api.ErrRange},
		{"no step", []api.Window{win(0, 0)}, 1, api.ErrArg},
		{"no step of nobody", []api.Window{win(0, 1), win(nobody, 0)}, 1, api.ErrArg},
		{"1024 steps", []api.Window{win(0, 1024)}, 1, api.OK},
		{"1025 steps", []api.Window{win(0, 1025)}, 1, api.ErrLong},
		{"65535 steps", []api.Window{win(0, 65535)}, 1, api.ErrLong},
		{"1024 steps of two", []api.Window{win(0, 1), win(nobody, 1023)}, 1, api.OK},
		{"1025 steps of two", []api.Window{win(0, 1), win(nobody, 1024)}, 1, api.ErrLong},
		{"as soon as there are more", []api.Window{win(0, 1000), win(0, 25), win(7, 1)}, 1, api.ErrLong},
		{"as soon as one may not be", []api.Window{win(0, 1000), win(7, 25)}, 1, api.ErrRange},
		{"no step ahead of more", []api.Window{win(0, 1024), win(0, 0), win(0, 9)}, 1, api.ErrArg},
		{"more ahead of no window", []api.Window{win(0, 1025)}, 2, api.ErrLong},
		{"the first has no window", []api.Window{win(1, 1)}, 2, api.ErrNone},
		{"all of nobody", []api.Window{win(nobody, 1)}, 1, api.ErrNone},
		{"round at 2^16 steps", many(32, 65535), 1, api.ErrLong},
	} {
		before := fmt.Sprint(c.l)
		if got := frame.Check(c.l, c.guests); got != c.e {
			t.Errorf("%s: Check %v, want %v", c.name, got, c.e)
		}
		x, e := frame.New(c.l, c.guests)
		if e != c.e || (x != nil) != (c.e == api.OK) {
			t.Errorf("%s: New %v, want %v", c.name, e, c.e)
		}
		if fmt.Sprint(c.l) != before {
			t.Errorf("%s: what was handed in was changed", c.name)
		}
	}
}

func TestP27_1KeepsNothingHandedIn(t *testing.T) {
	l := example()
	x := fresh(t, l, 2)
	l[0] = win(1, 9)
	if x.Text() != "0:2 1:1 -:1 0:1" || x.Owner(0) != 0 || x.Budget(0) != 3 {
		t.Errorf("a change of what was handed in makes a difference: %s", x.Text())
	}
}

func TestP27_2And3Examples(t *testing.T) {
	x := fresh(t, example(), 2)
	if x.Length() != 5 || x.Budget(0) != 3 || x.Budget(1) != 1 || x.Budget(nobody) != 1 || x.Budget(2) != 0 || x.Budget(254) != 0 {
		t.Errorf("Length %d, budgets %d %d %d", x.Length(), x.Budget(0), x.Budget(1), x.Budget(nobody))
	}
	for step, want := range []uint8{0, 0, 1, nobody, 0, 0} {
		if got := x.Owner(uint64(step)); got != want {
			t.Errorf("Owner(%d) = %d, want %d", step, got, want)
		}
	}
	if got := x.Owner(1000000002); got != 1 {
		t.Errorf("Owner(1000000002) = %d", got)
	}
	if x.Owned(0, 5) != 3 || x.Owned(1, 3) != 1 || x.Owned(0, 12) != 8 || x.Owned(2, 99) != 0 {
		t.Errorf("Owned %d %d %d", x.Owned(0, 5), x.Owned(1, 3), x.Owned(0, 12))
	}
	for _, c := range []struct {
		guest      uint8
		step, want uint64
		ok         bool
	}{{1, 3, 7, true}, {0, 2, 4, true}, {2, 0, 0, false}, {0, 0, 0, true}, {1, 2, 2, true}, {254, 3, 0, false}} {
		if got, ok := x.Next(c.guest, c.step); got != c.want || ok != c.ok {
			t.Errorf("Next(%d, %d) = %d, %v", c.guest, c.step, got, ok)
		}
	}
	if x.Text() != "0:2 1:1 -:1 0:1" {
		t.Errorf("Text %q", x.Text())
	}
}

func TestP27_2And3NothingMade(t *testing.T) {
	for name, x := range map[string]*frame.Table{"nil": nil, "not made": {}} {
		for _, step := range []uint64{0, 1, last} {
			if n, ok := x.Next(0, step); n != 0 || ok {
				t.Errorf("%s: Next", name)
			}
			if n, ok := x.Next(nobody, step); n != 0 || ok {
				t.Errorf("%s: Next of nobody", name)
			}
			if x.Owner(step) != nobody || x.Owned(0, step) != 0 || x.Owned(nobody, step) != 0 {
				t.Errorf("%s: Owner, Owned", name)
			}
		}
		for range x.Windows() {
			t.Errorf("%s: a window", name)
		}
		if x.Length() != 0 || x.Budget(0) != 0 || x.Budget(nobody) != 0 || x.Text() != "" {
			t.Errorf("%s: something is there", name)
		}
	}
}

func TestP27_3Windows(t *testing.T) {
	l := example()
	x := fresh(t, l, 2)
	var at []uint64
	var got []api.Window
	for place, w := range x.Windows() {
		at, got = append(at, place), append(got, w)
	}
	if !slices.Equal(got, l) || !slices.Equal(at, []uint64{0, 2, 3, 4}) {
		t.Errorf("Windows: %v at %v", got, at)
	}
	n := 0
	for range x.Windows() {
		if n++; n == 2 {
			break
		}
	}
	if n != 2 {
		t.Errorf("a loop that ends ahead: %d", n)
	}
	x = fresh(t, all16(), 16)
	var text []string
	for place, w := range x.Windows() {
		if place != 64*uint64(w.Guest) {
			t.Errorf("guest %d at %d", w.Guest, place)
		}
		text = append(text, fmt.Sprintf("%d:64", w.Guest))
	}
	if x.Text() != strings.Join(text, " ") {
		t.Errorf("Text %q", x.Text())
	}
}

func TestP27_3NextAtTheEnd(t *testing.T) {
	x := fresh(t, example(), 2) // 2^64 is 1 more than a multiple of 5: the last step's place is 0
	for _, c := range []struct {
		guest      uint8
		step, want uint64
		ok         bool
	}{
		{0, last, last, true}, {1, last, 0, false}, {nobody, last, 0, false}, {1, last - 2, 0, false}, {1, last - 3, last - 3, true}, {0, last - 1, last - 1, true}, {0, last - 3, last - 1, true}, {1, last - 4, last - 3, true}, {nobody, last - 1, 0, false}, {nobody, last - 3, last - 2, true},
	} {
		if got, ok := x.Next(c.guest, c.step); got != c.want || ok != c.ok {
			t.Errorf("Next(%d, 2^64 - %d) = %d, %v; want %d", c.guest, -c.step, got, ok, c.want)
		}
	}
	one := fresh(t, many(1, 1), 1)
	if got, ok := one.Next(0, last); got != last || !ok || one.Owned(0, last) != last {
		t.Errorf("Next(0, last) = %d, %v", got, ok)
	}
}

func someTable(r *uint64) ([]api.Window, int) {
	next := func(end uint64) uint64 {
		*r = *r*6364136223846793005 + 1442695040888963407
		return (*r >> 20) % end
	}
	for {
		guests := 1 + int(next(6))
		var l []api.Window
		for range 1 + next(16) {
			g := uint8(next(uint64(guests)))
			if next(4) == 0 {
				g = nobody
			}
			l = append(l, win(g, uint16(1+next(7))))
		}
		if frame.Check(l, guests) == api.OK {
			return l, guests
		}
	}
}

func TestP27_4And5Model(t *testing.T) {
	r := uint64(3)
	for range 200 {
		l, guests := someTable(&r)
		x := fresh(t, l, guests)
		var owners []uint8 // of a frame, step by step
		for _, w := range l {
			owners = append(owners, slices.Repeat([]uint8{w.Guest}, int(w.Steps))...)
		}
		length := uint64(len(owners))
		if x.Length() != length {
			t.Fatalf("%v: Length %d", l, x.Length())
		}
		sum := uint64(0)
		for _, g := range []uint8{0, 1, 2, 3, 4, 5, 6, nobody} {
			budget := uint64(0)
			for _, o := range owners {
				if o == g {
					budget++
				}
			}
			sum += budget
			if x.Budget(g) != budget || budget == 0 && int(g) < guests {
				t.Fatalf("%v: Budget(%d) = %d, want %d", l, g, x.Budget(g), budget)
			}
			owned := uint64(0)
			for step := range 3 * length {
				if o := owners[step%length]; x.Owner(step) != o {
					t.Fatalf("%v: Owner(%d) = %d, want %d", l, step, x.Owner(step), o)
				}
				if x.Owned(g, step) != owned {
					t.Fatalf("%v: Owned(%d, %d) = %d, want %d", l, g, step, x.Owned(g, step), owned)
				}
				if owners[step%length] == g {
					owned++
				}
				next, ok := x.Next(g, step)
				want := step
				for budget > 0 && owners[want%length] != g {
					want++
				}
				if ok != (budget > 0) || ok && (next != want || next-step >= length) || !ok && next != 0 {
					t.Fatalf("%v: Next(%d, %d) = %d, %v; want %d", l, g, step, next, ok, want)
				}
				far := 1<<50*length + step
				if x.Owner(far) != x.Owner(step) || x.Owned(g, far) != x.Owned(g, step)+1<<50*budget {
					t.Fatalf("%v: another owner far away", l)
				}
			}
		}
		if sum != length {
			t.Fatalf("%v: the budgets are together %d", l, sum)
		}
	}
}
