package walk_test

import (
	"maps"
	"testing"

	"almonry/api"
	"almonry/walk"
)

// words is a memory that refuses what isn't in it, and counts what it is asked.
type words struct {
	at       map[uint64]uint64
	readOnly bool
	reads    []uint64
	writes   [][2]uint64
}

func (w *words) Read(at uint64) (uint64, bool) {
	w.reads = append(w.reads, at)
	v, ok := w.at[at]
	if !ok {
		return 99, false // what is told beside a refusal is of no account
	}
	return v, true
}

func (w *words) Write(at, v uint64) bool {
	w.writes = append(w.writes, [2]uint64{at, v})
	if w.readOnly || w.at == nil {
		return false
	}
	w.at[at] = v
	return true
}

type random uint64

func (r *random) next() uint64 {
	*r ^= *r << 13
	*r ^= *r >> 7
	*r ^= *r << 17
	return uint64(*r)
}

const satp = 8<<60 | 0x80000

func example() *words {
	return &words{at: map[uint64]uint64{0x80000000: 0x20000401, 0x80001008: 0x20000801, 0x80002010: 0x200000cf}}
}

func TestP11_1Examples(t *testing.T) {
	at := [3]uint64{0x80000000, 0x80001008, 0x80002010}
	for _, c := range []struct {
		name string
		x    walk.Ask
		want walk.Result
	}{
		{"a Load by S", walk.Ask{Va: 0x202123, Satp: satp, Kind: api.Load, Mode: api.S}, walk.Result{Pa: 0x80000123, Pte: 0x200000cf, At: at, Reads: 3}},
		{"the same by U", walk.Ask{Va: 0x202123, Satp: satp, Kind: api.Load, Mode: api.U}, walk.Result{Fault: walk.PageFault, At: at, Reads: 3}},
		{"a word that is not there", walk.Ask{Va: 0x203000, Satp: satp, Kind: api.Load, Mode: api.S}, walk.Result{Fault: walk.AccessFault, At: [3]uint64{0x80000000, 0x80001008, 0x80002018}, Reads: 3}},
		{"no table at all", walk.Ask{Va: 0x40000000, Satp: satp, Kind: api.Load, Mode: api.S}, walk.Result{Fault: walk.AccessFault, At: [3]uint64{0x80000008}, Reads: 1}},
		{"not canonical", walk.Ask{Va: 0x8000000000, Satp: satp, Kind: api.Load, Mode: api.S}, walk.Result{Fault: walk.PageFault}},
		{"not canonical above", walk.Ask{Va: 1 << 63, Satp: satp, Kind: api.Load, Mode: api.S}, walk.Result{Fault: walk.PageFault}},
		{"bit 38 without those above", walk.Ask{Va: 1 << 38, Satp: satp, Kind: api.Load, Mode: api.S}, walk.Result{Fault: walk.PageFault}},
		{"canonical above", walk.Ask{Va: 1<<64 - 1<<38, Satp: satp, Kind: api.Load, Mode: api.S}, walk.Result{Fault: walk.AccessFault, At: [3]uint64{0x80000800}, Reads: 1}},
		{"by M", walk.Ask{Va: 0x202123, Satp: satp, Kind: api.Load, Mode: api.M}, walk.Result{Pa: 0x202123}},
		{"not canonical by M", walk.Ask{Va: 1 << 63, Satp: satp, Kind: 9, Mode: api.M}, walk.Result{Pa: 1 << 63}},
		{"satp bare", walk.Ask{Va: 0x202123, Satp: 0x80000, Kind: api.Load, Mode: api.U}, walk.Result{Pa: 0x202123}},
	} {
		w := example()
		if got := walk.Walk(w, c.x); got != c.want {
			t.Errorf("%s: %+v, want %+v", c.name, got, c.want)
		}
		if len(w.reads) != c.want.Reads || len(w.writes) != 0 {
			t.Errorf("%s: reads %#x, writes %#x", c.name, w.reads, w.writes)
		}
	}
}

func TestP11_1Bare(t *testing.T) {
	for mode := range uint8(5) {
		for top := range uint64(16) {
			x := walk.Ask{Va: 5, Satp: top<<60 | 1<<59 | 7, Mode: mode, Kind: api.Fetch}
			if got, want := walk.Bare(x), mode == 3 || top != 8; got != want {
				t.Errorf("Bare in mode %d, satp's highest bits %d: %v", mode, top, got)
			}
		}
	}
}

func TestP11_2Nil(t *testing.T) {
	for name, m := range map[string]walk.Memory{"nil": nil, "one that refuses all": &words{}} {
		got := walk.Walk(m, walk.Ask{Va: 0x202123, Satp: satp, Kind: api.Load, Mode: api.S})
		if got != (walk.Result{Fault: walk.AccessFault, At: [3]uint64{0x80000000}, Reads: 1}) {
			t.Errorf("%s: %+v", name, got)
		}
		if got := walk.Walk(m, walk.Ask{Va: 77, Mode: api.S}); got != (walk.Result{Pa: 77}) {
			t.Errorf("%s, bare: %+v", name, got)
		}
	}
}

const v, r, w, x, u, g, a, d = 1, 2, 4, 8, 16, 32, 64, 128

func leafAllowed(pte uint64, q walk.Ask) bool {
	has := func(b uint64) bool { return pte&b != 0 }
	var right bool
	switch q.Kind {
	case 0:
		right = has(x)
	case 1:
		right = has(r) || q.Mxr && has(x)
	case 2:
		right = has(w)
	}
	if q.Mode == 0 {
		return right && has(u)
	}
	return right && (!has(u) || q.Sum && q.Kind != 0)
}

func TestP11_3Allowed(t *testing.T) {
	for bits := range uint64(256) {
		for kind := range uint8(6) {
			for mode := range uint8(4) {
				for k := range 4 {
					q := walk.Ask{Kind: kind, Mode: mode, Sum: k&1 == 1, Mxr: k&2 == 2}
					pte := bits | 0xabc<<10
					if got, want := walk.Allowed(pte, q), leafAllowed(pte, q); got != want {
						t.Errorf("Allowed(%#x, %+v) = %v", pte, q, got)
					}
				}
			}
		}
	}
	if walk.Allowed(0xff, walk.Ask{Kind: 255, Sum: true, Mxr: true}) {
		t.Error("a kind above Store is never allowed")
	}
}

// model goes by the chapter's steps, on a map.
func model(mem map[uint64]uint64, readOnly bool, q walk.Ask) (walk.Result, map[uint64]uint64) {
	if q.Mode == 3 || q.Satp/(1<<60) != 8 {
		return walk.Result{Pa: q.Va}, nil
	}
	var res walk.Result
	bad := func(f uint8) (walk.Result, map[uint64]uint64) {
		return walk.Result{Fault: f, At: res.At, Reads: res.Reads}, nil
	}
	if top := q.Va >> 38; top != 0 && top != 1<<26-1 {
		return bad(1)
	}
	table := q.Satp % (1 << 44) * 4096
	for i := 2; i >= 0; i-- {
		n := (q.Va >> (12 + 9*i)) % 512
		at := table + 8*n
		res.At[res.Reads] = at
		res.Reads++
		pte, ok := mem[at]
		if !ok {
			return bad(2)
		}
		if pte&v == 0 || pte&(r|w) == w || pte>>54 != 0 {
			return bad(1)
		}
		ppn := (pte >> 10) % (1 << 44)
		if pte&(r|x) == 0 {
			if i == 0 || pte&(a|d|u) != 0 {
				return bad(1)
			}
			table = ppn * 4096
			continue
		}
		if !leafAllowed(pte, q) || ppn%(1<<(9*i)) != 0 {
			return bad(1)
		}
		want := pte | a
		if q.Kind == 2 {
			want |= d
		}
		var wrote map[uint64]uint64
		if want != pte {
			if readOnly {
				return bad(2)
			}
			wrote = map[uint64]uint64{at: want}
		}
		res.Pte, res.Level = want, i
		res.Pa = ppn*4096 + q.Va%(1<<(12+9*i))
		return res, wrote
	}
	panic("no end")
}

// someTables are words of three pages that point at one another, with leaves between them.
func someTables(rnd *random) map[uint64]uint64 {
	mem := map[uint64]uint64{}
	for p := range uint64(3) {
		for i := range uint64(12) {
			n := rnd.next() % 8
			pte := uint64(0x80000+rnd.next()%3) << 10
			switch rnd.next() % 8 {
			case 0, 1, 2:
				pte |= v
			case 3:
				pte = (rnd.next() << 28) &^ (1023 << 54)
				pte |= rnd.next() & 255
			case 4:
				pte |= rnd.next()&255 | v | r | a
			case 5:
				pte = 1<<52 | rnd.next()%4<<28 | rnd.next()&255 | v | r
			case 6:
				pte |= v | r | w | x | rnd.next()&(u|a|d)
			case 7:
				pte |= rnd.next()&1023 | rnd.next()&rnd.next()&rnd.next()&(1023<<54)
			}
			if n == 0 {
				continue
			}
			mem[0x80000000+p*4096+8*i] = pte
		}
	}
	return mem
}

func someAsk(rnd *random) walk.Ask {
	n := func() uint64 { return rnd.next() % 12 }
	q := walk.Ask{Va: n()<<30 | n()<<21 | n()<<12 | rnd.next()&4095, Satp: satp | rnd.next()&(0xffff<<44), Kind: uint8(rnd.next() % 3), Mode: uint8(rnd.next() % 2), Sum: rnd.next()&1 == 1, Mxr: rnd.next()&1 == 1}
	switch rnd.next() % 30 {
	case 0:
		q.Va |= rnd.next() << 38
	case 1:
		q.Kind = 3
	case 2:
		q.Mode = 2 + uint8(rnd.next()%2)
	}
	return q
}

func TestP11_1And2Model(t *testing.T) {
	rnd := random(1)
	seen := map[uint8]int{}
	written := 0
	for range 3000 {
		mem := someTables(&rnd)
		for range 40 {
			q := someAsk(&rnd)
			before := maps.Clone(mem)
			readOnly := rnd.next()%8 == 0
			wantR, wrote := model(mem, readOnly, q)
			m := &words{at: mem, readOnly: readOnly}
			got := walk.Walk(m, q)
			if got != wantR {
				t.Fatalf("Walk(%+v) = %+v, want %+v", q, got, wantR)
			}
			seen[got.Fault]++
			maps.Copy(before, wrote)
			if !maps.Equal(mem, before) {
				t.Fatalf("Walk(%+v) wrote %#x, want %#x", q, m.writes, wrote)
			}
			if len(m.writes) > 1 || len(wrote) != 0 && len(m.writes) != 1 || len(m.reads) != got.Reads {
				t.Fatalf("Walk(%+v): writes %#x, reads %#x", q, m.writes, m.reads)
			}
			for i, at := range m.reads {
				if at != got.At[i] {
					t.Fatalf("Walk(%+v): reads %#x, told %#x", q, m.reads, got.At)
				}
			}
			written += len(wrote)
			checkAgain(t, mem, q, got)
		}
	}
	if seen[walk.Fine] < 1000 || seen[walk.PageFault] < 1000 || seen[walk.AccessFault] < 1000 || written < 500 {
		t.Errorf("the test reaches too little: %v, %d written", seen, written)
	}
}

// checkAgain: P11.4 to P11.6.
func checkAgain(t *testing.T, mem map[uint64]uint64, q walk.Ask, got walk.Result) {
	t.Helper()
	again := &words{at: maps.Clone(mem)}
	if got.Fault == walk.Fine {
		if r2 := walk.Walk(again, q); r2 != got || len(again.writes) != 0 {
			t.Fatalf("the same walk once more: %+v, writes %#x", r2, again.writes)
		}
		if low := uint64(1)<<(12+9*got.Level) - 1; !walk.Bare(q) && got.Pa&low != q.Va&low {
			t.Fatalf("the offset of %+v: %+v", q, got)
		}
		only := map[uint64]uint64{}
		for _, at := range got.At[:got.Reads] {
			only[at] = mem[at]
		}
		if r2 := walk.Walk(&words{at: only}, q); r2 != got {
			t.Fatalf("the walk hangs on more than it read: %+v, %+v", r2, got)
		}
	}
	for k := range 2 {
		more := q
		if k == 0 {
			more.Sum = true
		} else {
			more.Mxr = true
		}
		r2 := walk.Walk(&words{at: maps.Clone(mem)}, more)
		if got.Fault == walk.Fine && (r2.Fault != walk.Fine || r2.Pa != got.Pa) {
			t.Fatalf("with SUM or MXR: %+v, without %+v", r2, got)
		}
	}
	if q.Kind == api.Store && got.Fault == walk.Fine && got.Pte&r != 0 {
		load := q
		load.Kind = api.Load
		if r2 := walk.Walk(&words{at: maps.Clone(mem)}, load); r2.Fault != walk.Fine {
			t.Fatalf("a Store is fine, a Load %+v", r2)
		}
	}
}

func TestP11_2MarksTheLeaf(t *testing.T) {
	for _, c := range []struct {
		name   string
		bits   uint64
		kind   uint8
		want   uint64
		writes int
	}{
		{"a Load sets A", v | r | w | x, api.Load, v | r | w | x | a, 1},
		{"a Fetch sets A", v | x, api.Fetch, v | x | a, 1},
		{"a Store sets A and D", v | r | w, api.Store, v | r | w | a | d, 1},
		{"a Store sets D", v | r | w | a, api.Store, v | r | w | a | d, 1},
		{"a Store sets A", v | r | w | d, api.Store, v | r | w | a | d, 1},
		{"a Load with D leaves it", v | r | w | d, api.Load, v | r | w | a | d, 1},
		{"a Load with A writes nothing", v | r | w | a, api.Load, v | r | w | a, 0},
		{"a Store with A and D writes nothing", v | r | w | a | d | g, api.Store, v | r | w | a | d | g, 0},
		{"a refused one writes nothing", v | r, api.Store, v | r, 0},
	} {
		m := example()
		m.at[0x80002010] = 0x20000000 | c.bits
		walk.Walk(m, walk.Ask{Va: 0x202000, Satp: satp, Kind: c.kind, Mode: api.S})
		if m.at[0x80002010] != 0x20000000|c.want || len(m.writes) != c.writes {
			t.Errorf("%s: %#x, writes %#x", c.name, m.at[0x80002010], m.writes)
		}
	}
	m := example()
	m.at[0x80002010] = 0x20000000 | v | r
	m.readOnly = true
	if got := walk.Walk(m, walk.Ask{Va: 0x202000, Satp: satp, Kind: api.Load, Mode: api.S}); got != (walk.Result{Fault: walk.AccessFault, At: [3]uint64{0x80000000, 0x80001008, 0x80002010}, Reads: 3}) {
		t.Errorf("a refused write of A: %+v", got)
	}
}
