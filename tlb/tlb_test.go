package tlb_test

import (
	"slices"
	"testing"

	"almonry/api"
	"almonry/tlb"
)

const satp = 8<<60 | 1

func example() tlb.Entry {
	return tlb.Entry{Satp: satp, Vpn: 0x202, Pte: 0x200000cf, At: [3]uint64{0x1000, 0x2008, 0x3010}, Reads: 3}
}

func page(vpn uint64) tlb.Entry { return tlb.Entry{Satp: satp, Vpn: vpn, Pte: vpn << 10} }

type random uint64

func (r *random) below(n uint64) uint64 {
	*r = *r*6364136223846793005 + 1442695040888963407
	return uint64(*r>>20) % n
}

func TestP12_1Pa(t *testing.T) {
	e := example()
	for _, c := range []struct {
		level, reads int
		pte, va, pa  uint64
	}{
		{0, 3, 0x200000cf, 0x202123, 0x80000123},
		{1, 3, 0x200000cf, 0x202123, 0x80002123},
		{2, 3, 0x200000cf, 0x202123, 0x80202123},
		{2, 0, 0x200000cf, 1<<63 | 0x202123, 0x80202123},
		{3, 3, 0x200000cf, 0x202123, 0},
		{-1, 3, 0x200000cf, 0x202123, 0},
		{1 << 40, 3, 0x200000cf, 0x202123, 0},
		{0, 4, 0x200000cf, 0x202123, 0},
		{0, -1, 0x200000cf, 0x202123, 0},
		{0, 1, 1<<64 - 1, 1<<64 - 1, 1<<56 - 1},
		{0, 1, 1<<64 - 1, 0, 1<<56 - 4096},
		{0, 1, 1023 << 54, 0xfff, 0xfff},
		{1, 1, 511 << 10, 0x1ff000, 0x1ff000},
		{1, 1, 0x3ff << 10, 0, 0x200000},
		{2, 1, 1<<64 - 1, 0, 1<<56 - 1<<30},
		{2, 1, 0, 1<<64 - 1, 1<<30 - 1},
	} {
		e.Level, e.Reads, e.Pte = c.level, c.reads, c.pte
		if got := e.Pa(c.va); got != c.pa {
			t.Errorf("Pa(%#x) of %+v = %#x, want %#x", c.va, e, got, c.pa)
		}
	}
}

func TestP12_1Nil(t *testing.T) {
	for name, x := range map[string]*tlb.TLB{"nil": nil, "not made": {}} {
		if e, ok := x.Find(0, 0); e != (tlb.Entry{}) || ok {
			t.Errorf("%s: Find", name)
		}
		if e := x.Add(example()); e != api.ErrNil {
			t.Errorf("%s: Add %v", name, e)
		}
		if e := x.Add(tlb.Entry{Reads: 9}); e != api.ErrNil {
			t.Errorf("%s: Add of what may not be %v", name, e)
		}
		if x.Wrote(0, 8) != 0 || x.Drop(0) != 0 || x.Flush() != 0 || len(x.All()) != 0 || x.Copy() != nil {
			t.Errorf("%s: something is there", name)
		}
	}
	if x := tlb.New(); x == nil || len(x.All()) != 0 {
		t.Error("New: no entries")
	}
}

func TestP12_2Examples(t *testing.T) {
	x, e := tlb.New(), example()
	if got := x.Add(e); got != api.OK {
		t.Errorf("Add: %v", got)
	}
	if got, ok := x.Find(satp, 0x202fff); got != e || !ok {
		t.Errorf("Find: %+v, %v", got, ok)
	}
	for _, c := range [][2]uint64{{0, 0x202fff}, {satp, 0x203000}, {satp, 0x201fff}, {satp, 1<<63 | 0x202000}, {satp | 1<<44, 0x202000}} {
		if got, ok := x.Find(c[0], c[1]); got != (tlb.Entry{}) || ok {
			t.Errorf("Find(%#x, %#x): %+v, %v", c[0], c[1], got, ok)
		}
	}
	if x.Wrote(0x1008, 8) != 0 || x.Wrote(0x200f, 1) != 1 {
		t.Error("Wrote")
	}
	if _, ok := x.Find(satp, 0x202fff); ok {
		t.Error("found, though a word was written")
	}
}

func TestP12_2Add(t *testing.T) {
	for _, e := range []tlb.Entry{{Reads: 4}, {Reads: -1}, {Level: 3}, {Level: -1}, {Level: 1 << 40}, {Reads: 1 << 40}} {
		x := tlb.New()
		x.Add(page(1))
		if got := x.Add(e); got != api.ErrArg || !slices.Equal(x.All(), []tlb.Entry{page(1)}) {
			t.Errorf("Add of %+v: %v, %+v", e, got, x.All())
		}
	}
	x := tlb.New()
	for vpn := range uint64(9) {
		if got := x.Add(page(vpn)); got != api.OK {
			t.Errorf("Add: %v", got)
		}
	}
	if _, ok := x.Find(satp, 0); ok {
		t.Error("nine entries: the first one goes")
	}
	if e, ok := x.Find(satp, 0x1000); !ok || e != page(1) {
		t.Error("nine entries: the second one stays")
	}
	// One of the same page goes, and the new one is the last: no other goes for it.
	again := page(1)
	again.Pte = 77
	x.Add(again)
	want := []tlb.Entry{page(2), page(3), page(4), page(5), page(6), page(7), page(8), again}
	if got := x.All(); !slices.Equal(got, want) {
		t.Errorf("All: %+v, want %+v", got, want)
	}
	// The same page of another satp is another one.
	other := page(1)
	other.Satp = 0
	x.Add(other)
	if got := x.All(); !slices.Equal(got, append(want[1:], other)) {
		t.Errorf("All: %+v", got)
	}
}

func TestP12_3Wrote(t *testing.T) {
	all := uint64(1<<64 - 1)
	for _, c := range []struct {
		at    [3]uint64
		reads int
		w, n  uint64
		goes  bool
	}{
		{[3]uint64{0x1000}, 1, 0x1000, 1, true}, {[3]uint64{0x1000}, 1, 0x1007, 1, true}, {[3]uint64{0x1000}, 1, 0x1008, 1, false}, {[3]uint64{0x1000}, 1, 0xfff, 1, false},
		{[3]uint64{0x1000}, 1, 0xfff, 2, true}, {[3]uint64{0x1000}, 1, 0xff8, 8, false}, {[3]uint64{0x1000}, 1, 0xff8, 9, true}, {[3]uint64{0x1000}, 1, 0x1004, 8, true},
		{[3]uint64{0x1000}, 1, 0x1000, 0, false}, {[3]uint64{0x1000}, 1, 0x1004, 0, false}, {[3]uint64{0x1000}, 0, 0x1000, 8, false}, {[3]uint64{}, 0, 0, 4096, false},
		{[3]uint64{0, 0, 0x1000}, 2, 0x1000, 8, false}, {[3]uint64{0, 0, 0x1000}, 3, 0x1000, 8, true}, {[3]uint64{0, 0x1000, 0}, 2, 0x1000, 8, true},
		{[3]uint64{0x2000}, 1, 0x1000, 4096, false}, {[3]uint64{0x2000}, 1, 0x1000, 4097, false}, {[3]uint64{0x2000}, 1, 0x1001, 4096, true}, {[3]uint64{0x2000}, 1, 0x1001, all, true}, {[3]uint64{0x2000}, 1, 0x1000, all, false},
		{[3]uint64{0}, 1, all, 1, false}, {[3]uint64{0}, 1, all, 2, true}, {[3]uint64{0}, 1, all - 7, 8, false}, {[3]uint64{0}, 1, all - 7, 9, true},
		{[3]uint64{all - 3}, 1, 0, 1, true}, {[3]uint64{all - 3}, 1, 3, 1, true}, {[3]uint64{all - 3}, 1, 4, 1, false}, {[3]uint64{all - 7}, 1, 0, 1, false}, {[3]uint64{all - 7}, 1, all, 1, true},
	} {
		x := tlb.New()
		x.Add(tlb.Entry{Satp: satp, Vpn: 5, At: c.at, Reads: c.reads})
		want := 0
		if c.goes {
			want = 1
		}
		if got := x.Wrote(c.w, c.n); got != want || len(x.All()) != 1-want {
			t.Errorf("Wrote(%#x, %#x) with %#x, %d: %d, want %d", c.w, c.n, c.at, c.reads, got, want)
		}
	}
}

func TestP12_3DropFlushAllCopy(t *testing.T) {
	x := tlb.New()
	other := page(2)
	other.Satp = 7
	for _, e := range []tlb.Entry{page(1), page(2), page(3), other} {
		x.Add(e)
	}
	c := x.Copy()
	l := x.All()
	l[0] = tlb.Entry{}
	if !slices.Equal(x.All(), []tlb.Entry{page(1), page(2), page(3), other}) {
		t.Error("All is no new memory")
	}
	if n := x.Drop(0x2fff); n != 2 || !slices.Equal(x.All(), []tlb.Entry{page(1), page(3)}) {
		t.Errorf("Drop: %d, %+v", n, x.All())
	}
	if x.Drop(0x2000) != 0 || x.Drop(1<<63|0x1000) != 0 || x.Drop(0) != 0 {
		t.Error("Drop of what is not there")
	}
	if n := x.Flush(); n != 2 || len(x.All()) != 0 || x.Flush() != 0 {
		t.Errorf("Flush: %d", n)
	}
	if !slices.Equal(c.All(), []tlb.Entry{page(1), page(2), page(3), other}) {
		t.Error("a copy is of its own")
	}
	c.Flush()
	c.Add(page(9))
	if len(x.All()) != 0 || len(c.All()) != 1 {
		t.Error("a copy is of its own")
	}
}

func TestP12_3Example(t *testing.T) {
	x := tlb.New()
	e := example()
	e.Vpn = 0x202
	x.Add(e)
	if x.Drop(0x202000) != 1 || x.Flush() != 0 {
		t.Error("Drop, Flush")
	}
}

func touched(e tlb.Entry, at, n uint64) bool {
	for k := range min(n, 4096) {
		for _, w := range e.At[:e.Reads] {
			if at+k-w < 8 {
				return true
			}
		}
	}
	return false
}

// TestP12_4And5Model: a list of entries, of which the chapter's words take away.
func TestP12_4And5Model(t *testing.T) {
	r := random(1)
	x := tlb.New()
	var want []tlb.Entry
	for i := range 30000 {
		at := r.below(40) * 4
		e := tlb.Entry{Satp: r.below(3), Vpn: r.below(8), Pte: r.below(1 << 40), Level: int(r.below(3)), Reads: int(r.below(4)), At: [3]uint64{at, r.below(160), r.below(160)}}
		gone := -1
		before := len(want)
		switch r.below(8) {
		case 0, 1, 2:
			want = slices.DeleteFunc(want, func(o tlb.Entry) bool { return o.Satp == e.Satp && o.Vpn == e.Vpn })
			if len(want) == 8 {
				want = want[1:]
			}
			want = append(want, e)
			if got := x.Add(e); got != api.OK {
				t.Fatalf("Add: %v", got)
			}
		case 3:
			if r.below(4) == 0 {
				n := r.below(20)
				gone = x.Wrote(at+r.below(4), 0)
				if gone != 0 {
					t.Fatal("Wrote of none")
				}
				gone = x.Wrote(at, n)
				want = slices.DeleteFunc(want, func(o tlb.Entry) bool { return touched(o, at, n) })
			}
		case 4:
			if r.below(4) == 0 {
				gone = x.Drop(e.Vpn<<12 | r.below(4096))
				want = slices.DeleteFunc(want, func(o tlb.Entry) bool { return o.Vpn == e.Vpn })
			}
		case 5:
			if r.below(100) == 0 {
				gone = x.Flush()
				want = nil
			}
		}
		if gone >= 0 && gone != before-len(want) {
			t.Fatalf("step %d: %d are gone, want %d", i, gone, before-len(want))
		}
		va := e.Vpn<<12 | r.below(4096)
		var wantE tlb.Entry
		for _, o := range want {
			if o.Satp == e.Satp && o.Vpn == e.Vpn {
				wantE = o
			}
		}
		if got, ok := x.Find(e.Satp, va); got != wantE || ok != (slices.Contains(want, wantE)) {
			t.Fatalf("step %d: Find %+v, %v; want %+v", i, got, ok, wantE)
		}
		if c := x.Copy(); !slices.Equal(x.All(), want) || !slices.Equal(c.All(), want) {
			t.Fatalf("step %d: All %+v, want %+v", i, x.All(), want)
		}
	}
}
