package codec_test

import (
	"strings"
	"testing"

	"almonry/api"
	"almonry/codec"
)

func f(n uint64, width int) codec.Field { return codec.Field{N: n, Width: width} }

func TestP1_1Put(t *testing.T) {
	const big = 0x8877665544332211
	cases := []struct {
		name string
		l    []codec.Field
		want string
	}{
		{"nothing", nil, ""},
		{"the example", []codec.Field{f(258, 2), f(7, 1), f(65536, 2)}, "\x02\x01\x07\x00\x00"},
		{"width 1", []codec.Field{f(big, 1)}, "\x11"},
		{"width 3", []codec.Field{f(big, 3)}, "\x11\x22\x33"},
		{"width 4", []codec.Field{f(big, 4)}, "\x11\x22\x33\x44"},
		{"width 7", []codec.Field{f(big, 7)}, "\x11\x22\x33\x44\x55\x66\x77"},
		{"width 8", []codec.Field{f(big, 8)}, "\x11\x22\x33\x44\x55\x66\x77\x88"},
		{"width 9 is 8", []codec.Field{f(big, 9)}, "\x11\x22\x33\x44\x55\x66\x77\x88"},
		{"a great width is 8", []codec.Field{f(big, 1<<40)}, "\x11\x22\x33\x44\x55\x66\x77\x88"},
		{"width 0 is 1", []codec.Field{f(big, 0)}, "\x11"},
		{"a width below 0 is 1", []codec.Field{f(big, -5)}, "\x11"},
		{"in order", []codec.Field{f(1, 1), f(2, 1), f(3, 2), f(4, 1)}, "\x01\x02\x03\x00\x04"},
	}
	for _, c := range cases {
		if got := codec.Put(c.l...); got != c.want {
			t.Errorf("%s: Put %q, want %q", c.name, got, c.want)
		}
	}
}

func TestP1_1PutKeepsWhatIsHandedIn(t *testing.T) {
	l := []codec.Field{f(1<<63, 0), f(7, 99)}
	codec.Put(l...)
	if l[0] != f(1<<63, 0) || l[1] != f(7, 99) {
		t.Errorf("the fields were changed: %v", l)
	}
}

func TestP1_1Sum(t *testing.T) {
	for s, want := range map[string]uint32{"": 1, "a": 128, "ab": 4066, "\x00": 31, "\x00\x00": 961, "\xff": 286} {
		if got := codec.Sum(s); got != want {
			t.Errorf("Sum(%q) = %d, want %d", s, got, want)
		}
	}
	// Without what is above 32 bits: told by the same rule in 64 bits.
	s := strings.Repeat("\xfe\x80a\x01", 50)
	want := uint64(1)
	for i := range len(s) {
		want = (want*31 + uint64(s[i])) % (1 << 32)
	}
	if got := codec.Sum(s); uint64(got) != want {
		t.Errorf("Sum of a long text = %d, want %d", got, want)
	}
}

func TestP1_2Take(t *testing.T) {
	s := "\x11\x22\x33\x44\x55\x66\x77\x88\x99"
	cases := []struct {
		width int
		want  uint64
		at    int
	}{
		{1, 0x11, 1}, {2, 0x2211, 2}, {3, 0x332211, 3}, {4, 0x44332211, 4}, {5, 0x5544332211, 5},
		{6, 0x665544332211, 6}, {7, 0x77665544332211, 7}, {8, 0x8877665544332211, 8},
		{0, 0x11, 1}, {-3, 0x11, 1}, {9, 0x8877665544332211, 8}, {1 << 50, 0x8877665544332211, 8},
	}
	for _, c := range cases {
		x := codec.Of(s)
		if got := x.Take(c.width); got != c.want || x.At() != c.at || x.Fail() != api.OK {
			t.Errorf("Take(%d) = %#x at %d (%v), want %#x at %d", c.width, got, x.At(), x.Fail(), c.want, c.at)
		}
	}
}

func TestP1_2Text(t *testing.T) {
	x := codec.Of("abcdef")
	for _, c := range []struct {
		n    int
		want string
		at   int
	}{{2, "ab", 2}, {0, "", 2}, {-1, "", 2}, {-1 << 60, "", 2}, {1, "c", 3}, {3, "def", 6}, {0, "", 6}, {-7, "", 6}} {
		if got := x.Text(c.n); got != c.want || x.At() != c.at || x.Fail() != api.OK {
			t.Errorf("Text(%d) = %q at %d (%v), want %q at %d", c.n, got, x.At(), x.Fail(), c.want, c.at)
		}
	}
}

func TestP1_2TornForEver(t *testing.T) {
	for name, tear := range map[string]func(*codec.Source){
		"Take":         func(x *codec.Source) { x.Take(4) },
		"Take of 8":    func(x *codec.Source) { x.Take(1000) },
		"Text":         func(x *codec.Source) { x.Text(4) },
		"a great Text": func(x *codec.Source) { x.Text(1<<63 - 1) },
	} {
		x := codec.Of("xabc")
		if x.Take(1) != 'x' {
			t.Errorf("%s: the first byte is another one", name)
		}
		tear(x)
		if x.Fail() != api.ErrTorn || x.At() != 1 || x.Left() != 3 {
			t.Errorf("%s: %v at %d, left %d", name, x.Fail(), x.At(), x.Left())
		}
		if x.Take(1) != 0 || x.Text(1) != "" || x.Text(3) != "" || x.Text(0) != "" || x.Take(2) != 0 {
			t.Errorf("%s: something was taken behind what was torn", name)
		}
		if x.Fail() != api.ErrTorn || x.At() != 1 || x.Left() != 3 {
			t.Errorf("%s, later: %v at %d, left %d", name, x.Fail(), x.At(), x.Left())
		}
	}
	if x := codec.Of(""); x.Take(0) != 0 || x.Fail() != api.ErrTorn {
		t.Error("a Take of width 0 is of one byte: torn of nothing")
	}
}

func TestP1_2TornTellsNothing(t *testing.T) {
	x := codec.Of("\x05\x06\x07")
	if n := x.Take(4); n != 0 {
		t.Errorf("torn Take = %d", n)
	}
	y := codec.Of("abc")
	if s := y.Text(4); s != "" {
		t.Errorf("torn Text = %q", s)
	}
}

func TestP1_2SourcesAreApart(t *testing.T) {
	x, y := codec.Of("ab"), codec.Of("ab")
	x.Take(8)
	if y.Fail() != api.OK || y.Text(2) != "ab" {
		t.Error("one source tore another one")
	}
}

func TestP1_3Example(t *testing.T) {
	x := codec.Of("\x02\x01\x07")
	if x.At() != 0 || x.Left() != 3 || x.Fail() != api.OK || x.End() != api.ErrLong {
		t.Errorf("at first: %d %d %v %v", x.At(), x.Left(), x.Fail(), x.End())
	}
	if n := x.Take(2); n != 258 || x.At() != 2 {
		t.Errorf("Take(2) = %d at %d", n, x.At())
	}
	if n := x.Take(2); n != 0 || x.Fail() != api.ErrTorn {
		t.Errorf("Take(2) = %d, %v", n, x.Fail())
	}
	if n := x.Take(1); n != 0 || x.Left() != 1 {
		t.Errorf("Take(1) = %d, left %d", n, x.Left())
	}
}

func TestP1_3End(t *testing.T) {
	x := codec.Of("ab")
	if x.Text(1) != "a" || x.End() != api.ErrLong {
		t.Error("a byte is left: ErrLong")
	}
	if x.Text(9) != "" || x.End() != api.ErrTorn {
		t.Error("torn goes ahead of what is left")
	}
	y := codec.Of("ab")
	if y.Text(2) != "ab" || y.End() != api.OK || y.Fail() != api.OK {
		t.Error("all is taken: OK")
	}
	if y.Take(1) != 0 || y.End() != api.ErrTorn {
		t.Error("torn at the end: ErrTorn")
	}
	if codec.Of("").End() != api.OK {
		t.Error("nothing is left of nothing")
	}
}

func TestP1_3Nil(t *testing.T) {
	var x *codec.Source
	if x.Take(3) != 0 || x.Text(3) != "" || x.Text(0) != "" || x.At() != 0 || x.Left() != 0 {
		t.Error("of nil: 0, nothing")
	}
	if x.Fail() != api.ErrNil || x.End() != api.ErrNil {
		t.Error("of nil: ErrNil")
	}
	y := new(codec.Source) // not made by Of: it must not panic
	y.Take(1)
	y.Text(1)
	y.At()
	y.Left()
	y.Fail()
	y.End()
}

func TestP1_4RoundTrip(t *testing.T) {
	n := uint64(0x9e3779b97f4a7c15)
	var fields []codec.Field
	for i := range 200 {
		n = n*6364136223846793005 + 1442695040888963407
		fields = append(fields, f(n, i%8+1))
	}
	s := codec.Put(fields...)
	x := codec.Of(s)
	for i, y := range fields {
		want := y.N & (1<<(8*y.Width) - 1)
		if y.Width == 8 {
			want = y.N
		}
		if got := x.Take(y.Width); got != want {
			t.Fatalf("field %d: %#x, want %#x", i, got, want)
		}
		if x.At()+x.Left() != len(s) {
			t.Fatalf("field %d: %d and %d are not %d", i, x.At(), x.Left(), len(s))
		}
	}
	if x.End() != api.OK {
		t.Error("something is left")
	}
}

func TestP1_5Sum(t *testing.T) {
	s := "any text at all \x00\xff\x80"
	for i := range len(s) {
		for b := range 256 {
			if byte(b) == s[i] {
				continue
			}
			other := s[:i] + string([]byte{byte(b)}) + s[i+1:]
			if codec.Sum(other) == codec.Sum(s) {
				t.Fatalf("byte %d as %d: the same sum", i, b)
			}
		}
	}
	// Two texts of one sum: 31 of the first byte are one of the second one.
	a, b := "b\x01", "a\x20"
	if codec.Sum(a) != codec.Sum(b) {
		t.Fatal("these should have one sum")
	}
	if codec.Sum(a+s) != codec.Sum(b+s) {
		t.Error("the sum hangs on more than the first one's sum, and the second one")
	}
}
