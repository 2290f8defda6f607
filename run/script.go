package run

import (
	"errors"

	"almonry/api"
	"almonry/codec"
	"almonry/config"
	"almonry/event"
	"almonry/image"
)

const (
	magic       = "ALR1"
	widthLength = 4
)

// Parse tells the script that bytes are.
func Parse(s string) (Script, error) {
	src := codec.Of(s)
	text := src.Text(len(magic))
	if isTorn(src) {
		return Script{}, &Fault{Part: partMagic, Err: api.ErrTorn}
	}
	if text != magic {
		return Script{}, &Fault{Part: partMagic, Err: api.ErrForm}
	}
	text, ok := part(src)
	if !ok {
		return Script{}, &Fault{Part: partConfig, Err: api.ErrTorn}
	}
	c, err := config.Parse(text)
	if err != nil {
		return Script{}, &Fault{Part: partConfig, Err: err}
	}
	x := Script{Config: c}
	for i, g := range c.Guests {
		text, ok := part(src)
		if !ok {
			return Script{}, &Fault{Part: partImage, Guest: i, Err: api.ErrTorn}
		}
		img, err := image.Parse(text, int(g.Pages))
		if err != nil {
			return Script{}, &Fault{Part: partImage, Guest: i, Err: err}
		}
		x.Images = append(x.Images, img)
	}
	x.Events, x.Dropped = event.Parse(src.Text(src.Left()), len(c.Guests))
	return x, nil
}

func isTorn(src *codec.Source) bool {
	return errors.Is(src.Fail(), api.ErrTorn)
}

// part takes bytes that have their number ahead; false, if they are not there. A number that is more than a text may be long is more than is there, too.
func part(src *codec.Source) (string, bool) {
	n := src.Take(widthLength)
	text := src.Text(int(n))
	return text, !isTorn(src)
}

// Build tells a script's bytes.
func Build(x Script) (string, error) {
	s, err := config.Build(x.Config)
	if err != nil {
		return "", &Fault{Part: partConfig, Err: err}
	}
	if len(x.Images) != len(x.Config.Guests) {
		return "", &Fault{Part: partImage, Err: api.ErrArg}
	}
	s = magic + counted(s)
	for i, img := range x.Images {
		text, e := image.Build(img, int(x.Config.Guests[i].Pages))
		if e != api.OK {
			return "", &Fault{Part: partImage, Guest: i, Err: e}
		}
		s += counted(text)
	}
	return s + event.Build(x.Events), nil
}

// counted is bytes with their number ahead.
func counted(s string) string {
	return codec.Put(codec.Field{N: uint64(len(s)), Width: widthLength}) + s
}
