// Package codec is layer 1: numbers as bytes, the lowest byte first, and a sum of bytes.
package codec

import "almonry/api"

// The widths that a field may have.
const (
	narrowest = 1
	widest    = 8
)

// Field is a number, and in how many bytes it stands.
type Field struct {
	N     uint64
	Width int
}

// Put gives the bytes of the fields, in order.
func Put(l ...Field) string {
	var out []byte
	for _, f := range l {
		n := f.N
		for range fit(f.Width) {
			out = append(out, byte(n))
			n >>= 8
		}
	}
	return string(out)
}

func fit(width int) int {
	return min(max(width, narrowest), widest)
}

// Source is a text that is taken from its beginning on.
type Source struct {
	piece func(at, n int) string
	at    int
	left  int
	torn  bool
}

// Of gives a source of s, nothing of which is taken.
func Of(s string) *Source {
	piece := func(at, n int) string { return s[at : at+n] }
	return &Source{piece: piece, left: len(s)}
}

// made is false of nil, and of a source that Of did not make: both have no text at all.
func (x *Source) made() bool {
	return x != nil && x.piece != nil
}

// Take gives the number whose bytes stand next.
func (x *Source) Take(width int) uint64 {
	s := x.Text(fit(width))
	var n uint64
	for i := range len(s) {
		n |= uint64(s[i]) << (8 * i)
	}
	return n
}

// Text gives the next n bytes. Once something was torn there are none any more, so that what is read behind it is never taken for what should stand there.
func (x *Source) Text(n int) string {
	if !x.made() {
		return ""
	}
	n = max(n, 0)
	if n > x.left {
		x.torn = true
	}
	if x.torn {
		return ""
	}
	s := x.piece(x.at, n)
	x.at += n
	x.left -= n
	return s
}

// At tells how many bytes are taken.
func (x *Source) At() int {
	if !x.made() {
		return 0
	}
	return x.at
}

// Left tells how many bytes are not taken.
func (x *Source) Left() int {
	if !x.made() {
		return 0
	}
	return x.left
}

// Fail tells whether something was torn.
func (x *Source) Fail() api.Errno {
	if !x.made() {
		return api.ErrNil
	}
	if x.torn {
		return api.ErrTorn
	}
	return api.OK
}

// End tells Fail, or that bytes are left.
func (x *Source) End() api.Errno {
	if e := x.Fail(); e != api.OK {
		return e
	}
	if x.left > 0 {
		return api.ErrLong
	}
	return api.OK
}

// Sum gives the sum of a text.
func Sum(s string) uint32 {
	sum := uint32(1)
	for i := range len(s) {
		sum = 31*sum + uint32(s[i])
	}
	return sum
}
