package image_test

import (
	"errors"
	"fmt"
	"reflect"
	"strings"
	"testing"

	"almonry/api"
	"almonry/codec"
	"almonry/image"
	"almonry/ram"
)

const base = 0x80000000

func seg(at uint64, s string) image.Segment { return image.Segment{At: at, Bytes: s} }

func of(entry uint64, l ...image.Segment) image.Image { return image.Image{Entry: entry, L: l} }

func summed(s string) string {
	return s + codec.Put(codec.Field{N: uint64(codec.Sum(s)), Width: 4})
}

func num(n uint64, width int) string { return codec.Put(codec.Field{N: n, Width: width}) }

// bytesOf lays an image's bytes as the chapter tells, whether it may be or not.
func bytesOf(x image.Image) string {
	s := "ALM1" + num(x.Entry, 8) + num(uint64(len(x.L)), 1)
	for _, g := range x.L {
		s += num(g.At, 8) + num(uint64(len(g.Bytes)), 2) + g.Bytes
	}
	return summed(s)
}

func same(a, b image.Image) bool {
	if a.Entry != b.Entry || len(a.L) != len(b.L) {
		return false
	}
	for i := range a.L {
		if a.L[i] != b.L[i] {
			return false
		}
	}
	return true
}

type broken struct{}

func (broken) Error() string { return "broken" }

func TestP7_1Fault(t *testing.T) {
	f := &image.Fault{Field: "entry", At: 4, E: api.ErrAlign}
	if f.Error() != "entry at 4: align" {
		t.Errorf("Error: %q", f.Error())
	}
	g := &image.Fault{Field: "sum", At: 12345, E: api.ErrSum}
	if g.Error() != "sum at 12345: sum" {
		t.Errorf("Error: %q", g.Error())
	}
	if _, err := image.Parse("ALM1"+num(base+1, 8), 1); err == nil || err.Error() != "entry at 4: align" {
		t.Errorf("the error of Parse of an odd entry: %v", err)
	}
	if e, ok := f.Unwrap().(api.Errno); !ok || e != api.ErrAlign {
		t.Errorf("Unwrap: %v", f.Unwrap())
	}
	var none *image.Fault
	if none.Error() != "" || none.Unwrap() != nil {
		t.Error("a nil Fault tells nothing")
	}
}

func TestP7_1CodeAndWhere(t *testing.T) {
	f := &image.Fault{Field: "entry", At: 4, E: api.ErrAlign}
	var none *image.Fault
	cases := []struct {
		name  string
		err   error
		code  api.Errno
		field string
		at    int
	}{
		{"nil", nil, api.OK, "", -1},
		{"a number", api.ErrTorn, api.ErrTorn, "", -1},
		{"a fault", f, api.ErrAlign, "entry", 4},
		{"a wrapped fault", fmt.Errorf("more: %w", f), api.ErrAlign, "entry", 4},
		{"twice", fmt.Errorf("more: %w", fmt.Errorf("still: %w", f)), api.ErrAlign, "entry", 4},
		{"a wrapped number", fmt.Errorf("more: %w", api.ErrSum), api.ErrSum, "", -1},
		{"joined", errors.Join(broken{}, f), api.ErrAlign, "entry", 4},
		{"another error", broken{}, api.ErrArg, "", -1},
		{"a nil fault", none, api.ErrArg, "", -1},
	}
	for _, c := range cases {
		if got := image.Code(c.err); got != c.code {
			t.Errorf("%s: Code %v, want %v", c.name, got, c.code)
		}
		if field, at := image.Where(c.err); field != c.field || at != c.at {
			t.Errorf("%s: Where %q %d, want %q %d", c.name, field, at, c.field, c.at)
		}
	}
}

func long(n int) string { return strings.Repeat("z", n) }

// cases are images with what Check tells of them.
var cases = []struct {
	name  string
	x     image.Image
	pages int
	e     api.Errno
}{
	{"the least", of(base), 1, api.OK},
	{"the example", of(base, seg(base+2, "ab")), 1, api.OK},
	{"no pages", of(base+1, seg(0, "")), 0, api.ErrArg},
	{"pages below 0", of(base), -1, api.ErrArg},
	{"too many pages", of(base), 17, api.ErrArg},
	{"16 pages", of(base + 65534), 16, api.OK},
	{"an odd entry", of(base + 1), 1, api.ErrAlign},
	{"an odd entry elsewhere", of(3), 1, api.ErrAlign},
	{"an entry below", of(base - 2), 1, api.ErrRange},
	{"an entry at 0", of(0), 1, api.ErrRange},
	{"the last entry", of(base + 4094), 1, api.OK},
	{"an entry behind", of(base + 4096), 1, api.ErrRange},
	{"an entry far behind", of(1<<64 - 2), 1, api.ErrRange},
	{"an entry of the second page", of(base + 4096), 2, api.OK},
	{"8 segments", of(base, seg(base, "a"), seg(base+1, "b"), seg(base+2, "c"), seg(base+3, "d"), seg(base+4, "e"), seg(base+5, "f"), seg(base+6, "g"), seg(base+7, "h")), 1, api.OK},
	{"9 segments", of(base, seg(base, ""), seg(base+1, "b"), seg(base+2, "c"), seg(base+3, "d"), seg(base+4, "e"), seg(base+5, "f"), seg(base+6, "g"), seg(base+7, "h"), seg(base+8, "i")), 1, api.ErrLong},
	{"an empty segment", of(base, seg(0, "")), 1, api.ErrForm},
	{"an empty one behind", of(base, seg(base, "a"), seg(base, "")), 1, api.ErrForm},
	{"65535 bytes", of(base, seg(base+1, long(65535))), 16, api.OK},
	{"65536 bytes", of(base, seg(base, long(65536))), 16, api.ErrLong},
	{"65536 bytes elsewhere", of(base, seg(0, long(65536))), 1, api.ErrLong},
	{"one that ends at the end", of(base, seg(base+4094, "ab")), 1, api.OK},
	{"one that ends behind", of(base, seg(base+4095, "ab")), 1, api.ErrRange},
	{"one at the end", of(base, seg(base+4096, "a")), 1, api.ErrRange},
	{"one below", of(base, seg(base-1, "ab")), 1, api.ErrRange},
	{"one at 0", of(base, seg(0, "a")), 1, api.ErrRange},
	{"one that goes round", of(base, seg(1<<64-1, "ab")), 1, api.ErrRange},
	{"one page full and one byte", of(base, seg(base, long(4097))), 1, api.ErrRange},
	{"one page full", of(base, seg(base, long(4096))), 1, api.OK},
	{"just behind", of(base, seg(base, "ab"), seg(base+2, "c")), 1, api.OK},
	{"ahead of the end", of(base, seg(base, "ab"), seg(base+1, "c")), 1, api.ErrThere},
	{"ahead of all", of(base, seg(base+8, "ab"), seg(base, "c")), 1, api.ErrThere},
	{"the same twice", of(base, seg(base, "a"), seg(base, "a")), 1, api.ErrThere},
	{"range ahead of there", of(base, seg(base+8, "a"), seg(base-8, "a")), 1, api.ErrRange},
	{"the first one that may not be", of(base, seg(base+8, "a"), seg(base, "a"), seg(0, "a")), 1, api.ErrThere},
}

func TestP7_2Check(t *testing.T) {
	for _, c := range cases {
		before := image.Image{Entry: c.x.Entry, L: append([]image.Segment(nil), c.x.L...)}
		if got := image.Check(c.x, c.pages); got != c.e {
			t.Errorf("%s: Check %v, want %v", c.name, got, c.e)
		}
		s, e := image.Build(c.x, c.pages)
		want := ""
		if c.e == api.OK {
			want = bytesOf(c.x)
		}
		if e != c.e || s != want {
			t.Errorf("%s: Build %d bytes, %v; want %d, %v", c.name, len(s), e, len(want), c.e)
		}
		if !reflect.DeepEqual(before.L, append([]image.Segment(nil), c.x.L...)) {
			t.Errorf("%s: what was handed in was changed", c.name)
		}
	}
}

func TestP7_2Example(t *testing.T) {
	s, e := image.Build(of(base, seg(base+2, "ab")), 1)
	want := summed("ALM1\x00\x00\x00\x80\x00\x00\x00\x00\x01\x02\x00\x00\x80\x00\x00\x00\x00\x02\x00ab")
	if s != want || e != api.OK || len(s) != 29 {
		t.Errorf("Build %q, %v; want %q", s, e, want)
	}
}

func TestP7_3Parse(t *testing.T) {
	good := bytesOf(of(base, seg(base+2, "ab")))
	if x, err := image.Parse(good, 1); err != nil || !same(x, of(base, seg(base+2, "ab"))) {
		t.Errorf("Parse: %+v, %v", x, err)
	}
	two := of(base+4, seg(base, "abc"), seg(base+3, "d"), seg(base+4000, long(96)))
	if x, err := image.Parse(bytesOf(two), 1); err != nil || !same(x, two) {
		t.Errorf("Parse: %+v, %v", x, err)
	}
	none := of(base + 6)
	if x, err := image.Parse(bytesOf(none), 3); err != nil || !same(x, none) {
		t.Errorf("Parse: %+v, %v", x, err)
	}
}

func TestP7_3Faults(t *testing.T) {
	head := "ALM1" + num(base, 8)
	good := bytesOf(of(base, seg(base+2, "ab")))
	cases := []struct {
		name, s string
		pages   int
		field   string
		at      int
		e       api.Errno
	}{
		{"no pages", good, 0, "", -1, api.ErrArg},
		{"17 pages", "", 17, "", -1, api.ErrArg},
		{"nothing", "", 1, "magic", 0, api.ErrTorn},
		{"a torn magic", "ALM", 1, "magic", 0, api.ErrTorn},
		{"another torn magic", "XYZ", 1, "magic", 0, api.ErrTorn},
		{"another magic", "ALM2" + good[4:], 1, "magic", 0, api.ErrForm},
		{"another magic alone", "alm1", 1, "magic", 0, api.ErrForm},
		{"no entry", "ALM1", 1, "entry", 4, api.ErrTorn},
		{"a torn entry", head[:11], 1, "entry", 4, api.ErrTorn},
		{"an odd entry", "ALM1" + num(base+1, 8), 1, "entry", 4, api.ErrAlign},
		{"an odd entry elsewhere", "ALM1" + num(1, 8), 1, "entry", 4, api.ErrAlign},
		{"an entry behind", "ALM1" + num(base+4096, 8), 1, "entry", 4, api.ErrRange},
		{"an entry below", "ALM1" + num(base-2, 8), 1, "entry", 4, api.ErrRange},
		{"no count", head, 1, "count", 12, api.ErrTorn},
		{"9 segments", head + "\x09", 1, "count", 12, api.ErrLong},
		{"255 segments", head + "\xff", 1, "count", 12, api.ErrLong},
		{"no address", head + "\x01", 1, "address", 13, api.ErrTorn},
		{"a torn address", head + "\x01" + num(0, 7), 1, "address", 13, api.ErrTorn},
		{"no length", head + "\x01" + num(0, 8), 1, "length", 21, api.ErrTorn},
		{"a torn length", head + "\x01" + num(0, 8) + "\x01", 1, "length", 21, api.ErrTorn},
		{"a length of 0", head + "\x01" + num(0, 8) + "\x00\x00", 1, "length", 21, api.ErrForm},
		{"an address below", head + "\x01" + num(base-1, 8) + "\x02\x00", 1, "address", 13, api.ErrRange},
		{"an address behind", head + "\x01" + num(base+4095, 8) + "\x02\x00", 1, "address", 13, api.ErrRange},
		{"an address that goes round", head + "\x01" + num(1<<64-1, 8) + "\x02\x00", 1, "address", 13, api.ErrRange},
		{"no bytes", head + "\x01" + num(base, 8) + "\x02\x00", 1, "bytes", 23, api.ErrTorn},
		{"torn bytes", head + "\x01" + num(base, 8) + "\x02\x00a", 1, "bytes", 23, api.ErrTorn},
		{"a second one ahead of the first", head + "\x02" + num(base+2, 8) + "\x02\x00ab" + num(base+3, 8) + "\x01\x00", 1, "address", 25, api.ErrThere},
		{"a second one without bytes", head + "\x02" + num(base+2, 8) + "\x02\x00ab" + num(0, 8) + "\x00\x00", 1, "length", 33, api.ErrForm},
		{"a second one torn", head + "\x02" + num(base+2, 8) + "\x02\x00ab", 1, "address", 25, api.ErrTorn},
		{"no sum", good[:25], 1, "sum", 25, api.ErrTorn},
		{"a torn sum", good[:28], 1, "sum", 25, api.ErrTorn},
		{"another sum", good[:25] + "\x00\x00\x00\x00", 1, "sum", 25, api.ErrSum},
		{"another sum with more behind", good[:25] + "\x00\x00\x00\x00\x00", 1, "sum", 25, api.ErrSum},
		{"more behind", good + "\x00", 1, "end", 29, api.ErrLong},
		{"much more behind", good + good, 1, "end", 29, api.ErrLong},
	}
	for _, c := range cases {
		x, err := image.Parse(c.s, c.pages)
		field, at := image.Where(err)
		if !same(x, image.Image{}) || image.Code(err) != c.e || field != c.field || at != c.at {
			t.Errorf("%s: %+v, %v (%q %d, %v); want %q %d, %v", c.name, x, err, field, at, image.Code(err), c.field, c.at, c.e)
		}
	}
}

func TestP7_3AsOfCheck(t *testing.T) {
	for _, c := range cases {
		if c.e == api.ErrLong { // more than bytes can say
			continue
		}
		_, err := image.Parse(bytesOf(c.x), c.pages)
		if image.Code(err) != c.e {
			t.Errorf("%s: Parse %v, Check %v", c.name, err, c.e)
		}
	}
}

func TestP7_4Load(t *testing.T) {
	m := ram.New(1)
	m.Put(0, long(4096))
	m.Reserve(2048, 8)
	x := of(base, seg(base+2, "ab"), seg(base+4094, "yz"))
	if e := image.Load(m, x); e != api.OK {
		t.Fatalf("Load: %v", e)
	}
	want := "\x00\x00ab" + strings.Repeat("\x00", 4090) + "yz"
	if s, _ := m.Bytes(0, 4096); s != want {
		t.Error("Load: other bytes than the image's, and 0")
	}
	for name, y := range map[string]image.Image{
		"behind":  of(base, seg(base, "A"), seg(base+4095, "BC")),
		"below":   of(base, seg(base, "A"), seg(base-1, "BC")),
		"at 0":    of(base, seg(base, "A"), seg(0, "BC")),
		"round":   of(base, seg(base, "A"), seg(1<<64-1, "BC")),
		"too big": of(base, seg(base, long(4097))),
	} {
		if e := image.Load(m, y); e != api.ErrRange {
			t.Errorf("%s: Load %v", name, e)
		}
		if s, _ := m.Bytes(0, 4096); s != want {
			t.Errorf("%s: a refused Load wrote", name)
		}
	}
	if e := image.Load(m, of(base)); e != api.OK {
		t.Errorf("Load of no segment: %v", e)
	}
	if s, _ := m.Bytes(0, 4096); s != strings.Repeat("\x00", 4096) {
		t.Error("Load of no segment: all bytes are 0")
	}
	if e := image.Load(nil, x); e != api.ErrArg {
		t.Errorf("Load into nil: %v", e)
	}
	if e := image.Load(&ram.RAM{}, x); e != api.ErrArg {
		t.Errorf("Load into no memory: %v", e)
	}
}

func TestP7_5RoundTrip(t *testing.T) {
	for _, c := range cases {
		if c.e != api.OK {
			continue
		}
		s, _ := image.Build(c.x, c.pages)
		x, err := image.Parse(s, c.pages)
		if err != nil || !same(x, c.x) {
			t.Errorf("%s: Parse of Build: %v", c.name, err)
		}
		if again, e := image.Build(x, c.pages); again != s || e != api.OK {
			t.Errorf("%s: Build of Parse gives other bytes, %v", c.name, e)
		}
	}
}

func TestP7_5OneByteChanged(t *testing.T) {
	s, _ := image.Build(of(base, seg(base+2, "ab"), seg(base+100, "some more")), 16)
	for i := range len(s) {
		for b := range 256 {
			if byte(b) == s[i] {
				continue
			}
			other := s[:i] + string([]byte{byte(b)}) + s[i+1:]
			if x, err := image.Parse(other, 16); err == nil || !same(x, image.Image{}) {
				t.Fatalf("byte %d as %d: an image", i, b)
			}
		}
	}
}

func TestP7_6ErrorsIs(t *testing.T) {
	good := bytesOf(of(base, seg(base+2, "ab")))
	for i := range len(good) {
		for _, s := range []string{good[:i], good[:i] + string([]byte{good[i] ^ 0xf1}) + good[i+1:], good + good[:i+1]} {
			_, err := image.Parse(s, 1)
			if err == nil {
				t.Fatalf("%q: an image", s)
			}
			for e := api.OK; e <= api.ErrAccess; e++ {
				if errors.Is(err, e) != (image.Code(err) == e) {
					t.Fatalf("%q: errors.Is of %v and %v", s, err, e)
				}
			}
			var f *image.Fault
			if !errors.As(err, &f) || f.Error() != err.Error() {
				t.Fatalf("%q: %v is no Fault", s, err)
			}
		}
	}
}
