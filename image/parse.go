package image

import (
	"errors"

	"almonry/api"
	"almonry/codec"
)

// parser takes an image's fields out of its bytes.
type parser struct {
	src   *codec.Source
	space *space
}

// fault tells one of a field that begins at an offset; nil, if nothing is wrong.
func fault(field string, at int, e api.Errno) error {
	if e == api.OK {
		return nil
	}
	return &Fault{Field: field, At: at, E: e}
}

// number takes one, and tells where it began.
func (p *parser) number(field string, width int) (v uint64, at int, err error) {
	at = p.src.At()
	v = p.src.Take(width)
	return v, at, fault(field, at, p.src.Fail())
}

// Parse tells the image that bytes are.
func Parse(s string, pages int) (Image, error) {
	if !pagesMayBe(pages) {
		return Image{}, api.ErrArg
	}
	p := &parser{src: codec.Of(s), space: spaceOf(pages)}
	x, err := p.image()
	if err != nil {
		return Image{}, err
	}
	if err := p.end(s); err != nil {
		return Image{}, err
	}
	return x, nil
}

// image takes all that stands ahead of the sum.
func (p *parser) image() (Image, error) {
	text := p.src.Text(len(magic))
	if e := p.src.Fail(); e != api.OK {
		return Image{}, fault("magic", 0, e)
	}
	if text != magic {
		return Image{}, fault("magic", 0, api.ErrForm)
	}
	entry, at, err := p.number("entry", widthEntry)
	if err == nil {
		err = fault("entry", at, p.space.entry(entry))
	}
	if err != nil {
		return Image{}, err
	}
	count, at, err := p.number("count", widthCount)
	if err == nil && count > mostParts {
		err = fault("count", at, api.ErrLong)
	}
	if err != nil {
		return Image{}, err
	}
	x := Image{Entry: entry}
	for range count {
		g, err := p.segment()
		if err != nil {
			return Image{}, err
		}
		x.L = append(x.L, g)
	}
	return x, nil
}

func (p *parser) segment() (Segment, error) {
	at, atAt, err := p.number("address", widthAt)
	if err != nil {
		return Segment{}, err
	}
	n, lengthAt, err := p.number("length", widthLength)
	if err != nil {
		return Segment{}, err
	}
	if e := p.space.take(at, n); errors.Is(e, api.ErrForm) {
		return Segment{}, fault("length", lengthAt, e)
	} else if e != api.OK {
		return Segment{}, fault("address", atAt, e)
	}
	bytesAt := p.src.At()
	text := p.src.Text(int(n))
	if err := fault("bytes", bytesAt, p.src.Fail()); err != nil {
		return Segment{}, err
	}
	return Segment{At: at, Bytes: text}, nil
}

// end takes the sum of what was taken so far, behind which nothing may stand.
func (p *parser) end(s string) error {
	ahead := s[:p.src.At()]
	sum, at, err := p.number("sum", widthSum)
	if err == nil && sum != uint64(codec.Sum(ahead)) {
		err = fault("sum", at, api.ErrSum)
	}
	if err != nil {
		return err
	}
	return fault("end", p.src.At(), p.src.End())
}
