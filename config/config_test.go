package config_test

import (
	"errors"
	"fmt"
	"reflect"
	"strings"
	"testing"

	"almonry/api"
	"almonry/codec"
	"almonry/config"
	"almonry/frame"
)

func guest(pages uint8) api.Guest { return api.Guest{Pages: pages} }

func win(guest uint8, steps uint16) api.Window { return api.Window{Guest: guest, Steps: steps} }

func end(guest, port uint8) api.End { return api.End{Guest: guest, Port: port} }

// example is the chapter's.
func example() config.Config {
	return config.Config{Guests: []api.Guest{{Pages: 1, Limit: 5, Restart: 2}}, Windows: []api.Window{win(0, 3)}}
}

// whole has something of everything.
func whole() config.Config {
	g := api.Guest{Pages: 16, Limit: 0x11223344, Restart: 255}
	for i := range g.Actions {
		g.Actions[i] = uint8(i % 5)
	}
	return config.Config{
		Guests:  []api.Guest{g, guest(2), {Pages: 3, Limit: 1<<32 - 1, Restart: 7}},
		Windows: []api.Window{win(2, 258), win(api.Nobody, 3), win(0, 1), win(1, 7)},
		Channels: []api.Channel{
			{Kind: 0, Guest: 0, Port: 3, Most: 64, Validity: 0x01020304, To: []api.End{end(1, 15), end(2, 0), end(0, 1)}},
			{Kind: 1, Guest: 2, Port: 9, Most: 5, Depth: 16, To: []api.End{end(1, 2)}},
		},
	}
}

func le(n uint64, width int) string {
	b := make([]byte, width)
	for i := range b {
		b[i] = byte(n >> (8 * i))
	}
	return string(b)
}

// body lays a configuration's bytes without the sum, whether it may be or not.
func body(c config.Config) string {
	s := "ALC1" + le(uint64(len(c.Guests)), 1)
	for _, g := range c.Guests {
		s += le(uint64(g.Pages), 1) + le(uint64(g.Limit), 4) + le(uint64(g.Restart), 1)
		for _, a := range g.Actions {
			s += le(uint64(a), 1)
		}
	}
	s += le(uint64(len(c.Windows)), 1)
	for _, w := range c.Windows {
		s += le(uint64(w.Guest), 1) + le(uint64(w.Steps), 2)
	}
	s += le(uint64(len(c.Channels)), 1)
	for _, x := range c.Channels {
		s += le(uint64(x.Kind), 1) + le(uint64(x.Guest), 1) + le(uint64(x.Port), 1) + le(uint64(x.Most), 1) + le(uint64(x.Depth), 1) + le(uint64(x.Validity), 4) + le(uint64(len(x.To)), 1)
		for _, e := range x.To {
			s += le(uint64(e.Guest), 1) + le(uint64(e.Port), 1)
		}
	}
	return s
}

func summed(s string) string { return s + le(uint64(codec.Sum(s)), 4) }

func same(a, b config.Config) bool { return fmt.Sprint(a) == fmt.Sprint(b) }

type broken struct{}

func (broken) Error() string { return "broken" }

func TestP28_1Faults(t *testing.T) {
	f := &config.Fault{Field: "guest", N: 3, E: api.ErrForm}
	if f.Error() != "guest 3: form" || (&config.Fault{Field: "sum", N: 0, E: api.ErrSum}).Error() != "sum 0: sum" {
		t.Errorf("Error: %q", f.Error())
	}
	if e, ok := f.Unwrap().(api.Errno); !ok || e != api.ErrForm {
		t.Errorf("Unwrap: %v", f.Unwrap())
	}
	var none *config.Fault
	if none.Error() != "" || none.Unwrap() != nil {
		t.Error("a nil Fault tells nothing")
	}
	for name, c := range map[string]struct {
		err   error
		code  api.Errno
		field string
		n     int
	}{
		"nil":             {nil, api.OK, "", -1},
		"a number":        {api.ErrTorn, api.ErrTorn, "", -1},
		"a fault":         {f, api.ErrForm, "guest", 3},
		"a wrapped one":   {fmt.Errorf("more: %w", fmt.Errorf("still: %w", f)), api.ErrForm, "guest", 3},
		"a wrapped one 2": {fmt.Errorf("more: %w", api.ErrSum), api.ErrSum, "", -1},
		"another error":   {broken{}, api.ErrArg, "", -1},
		"a nil fault":     {none, api.ErrArg, "", -1},
	} {
		if got := config.Code(c.err); got != c.code {
			t.Errorf("%s: Code %v, want %v", name, got, c.code)
		}
		if field, n := config.Where(c.err); field != c.field || n != c.n {
			t.Errorf("%s: Where %q %d, want %q %d", name, field, n, c.field, c.n)
		}
	}
}

type fault struct {
	field string
	n     int
	e     api.Errno
}

func faultOf(err error) fault {
	if err == nil {
		return fault{"", -1, api.OK}
	}
	field, n := config.Where(err)
	return fault{field, n, config.Code(err)}
}

var fine = fault{"", -1, api.OK}

func with(c config.Config, change func(*config.Config)) config.Config {
	change(&c)
	return c
}

func guests(n int) []api.Guest {
	var l []api.Guest
	for range n {
		l = append(l, guest(1))
	}
	return l
}

func wins(n int) []api.Window {
	var l []api.Window
	for i := range n {
		l = append(l, win(uint8(i), 1))
	}
	return l
}

var cases = map[string]struct {
	c config.Config
	f fault
}{
	"the example":               {example(), fine},
	"all of it":                 {whole(), fine},
	"nothing":                   {config.Config{}, fault{"guests", 0, api.ErrRange}},
	"no guests":                 {with(whole(), func(c *config.Config) { c.Guests = nil }), fault{"guests", 0, api.ErrRange}},
	"16 guests":                 {config.Config{Guests: guests(16), Windows: wins(16)}, fine},
	"17 guests":                 {config.Config{Guests: guests(17), Windows: wins(17)}, fault{"guests", 0, api.ErrRange}},
	"200 guests":                {config.Config{Guests: guests(200), Windows: wins(1)}, fault{"guests", 0, api.ErrRange}},
	"0 pages":                   {with(example(), func(c *config.Config) { c.Guests[0].Pages = 0 }), fault{"guest", 0, api.ErrRange}},
	"17 pages":                  {with(whole(), func(c *config.Config) { c.Guests[2].Pages = 17 }), fault{"guest", 2, api.ErrRange}},
	"255 pages":                 {with(whole(), func(c *config.Config) { c.Guests[1].Pages = 255 }), fault{"guest", 1, api.ErrRange}},
	"16 pages":                  {with(example(), func(c *config.Config) { c.Guests[0].Pages = 16 }), fine},
	"an action 5":               {with(example(), func(c *config.Config) { c.Guests[0].Actions[0] = 5 }), fault{"guest", 0, api.ErrForm}},
	"the watchdog's action 5":   {with(whole(), func(c *config.Config) { c.Guests[1].Actions[16] = 5 }), fault{"guest", 1, api.ErrForm}},
	"an action 255":             {with(whole(), func(c *config.Config) { c.Guests[2].Actions[7] = 255 }), fault{"guest", 2, api.ErrForm}},
	"actions 4":                 {with(example(), func(c *config.Config) { c.Guests[0].Actions[16] = 4 }), fine},
	"pages ahead of actions":    {with(example(), func(c *config.Config) { c.Guests[0].Pages, c.Guests[0].Actions[1] = 0, 9 }), fault{"guest", 0, api.ErrRange}},
	"the first guest":           {with(whole(), func(c *config.Config) { c.Guests[0].Actions[1], c.Guests[1].Pages = 9, 0 }), fault{"guest", 0, api.ErrForm}},
	"guests ahead of windows":   {with(whole(), func(c *config.Config) { c.Guests[2].Pages, c.Windows = 0, nil }), fault{"guest", 2, api.ErrRange}},
	"no window":                 {with(example(), func(c *config.Config) { c.Windows = nil }), fault{"windows", 0, api.ErrNone}},
	"a guest without windows":   {with(whole(), func(c *config.Config) { c.Windows = c.Windows[1:] }), fault{"windows", 0, api.ErrNone}},
	"a window of none":          {with(example(), func(c *config.Config) { c.Windows = []api.Window{win(1, 1)} }), fault{"windows", 0, api.ErrRange}},
	"a window of no step":       {with(example(), func(c *config.Config) { c.Windows = []api.Window{win(0, 0)} }), fault{"windows", 0, api.ErrArg}},
	"33 windows":                {with(example(), func(c *config.Config) { c.Windows = make([]api.Window, 33) }), fault{"windows", 0, api.ErrLong}},
	"1025 steps":                {with(example(), func(c *config.Config) { c.Windows = []api.Window{win(0, 1025)} }), fault{"windows", 0, api.ErrLong}},
	"a channel to a guest 1":    {with(example(), func(c *config.Config) { c.Channels = []api.Channel{{Most: 1, To: []api.End{end(1, 0)}}} }), fault{"channels", 0, api.ErrRange}},
	"a channel of no form":      {with(example(), func(c *config.Config) { c.Channels = []api.Channel{{Kind: 7, Most: 1, To: []api.End{end(0, 1)}}} }), fault{"channels", 0, api.ErrForm}},
	"a channel to no end":       {with(example(), func(c *config.Config) { c.Channels = []api.Channel{{Most: 1}} }), fault{"channels", 0, api.ErrForm}},
	"an end twice":              {with(example(), func(c *config.Config) { c.Channels = []api.Channel{{Most: 1, To: []api.End{end(0, 0)}}} }), fault{"channels", 0, api.ErrThere}},
	"17 channels":               {with(example(), func(c *config.Config) { c.Channels = make([]api.Channel, 17) }), fault{"channels", 0, api.ErrLong}},
	"windows ahead of channels": {with(example(), func(c *config.Config) { c.Windows, c.Channels = nil, make([]api.Channel, 17) }), fault{"windows", 0, api.ErrNone}},
}

func TestP28_2CheckAndBuild(t *testing.T) {
	for name, c := range cases {
		before := fmt.Sprint(c.c)
		if got := faultOf(config.Check(c.c)); got != c.f {
			t.Errorf("%s: Check %+v, want %+v", name, got, c.f)
		}
		s, err := config.Build(c.c)
		want := ""
		if c.f == fine {
			want = summed(body(c.c))
		}
		if got := faultOf(err); got != c.f || s != want {
			t.Errorf("%s: Build %q, %+v; want %q, %+v", name, s, got, want, c.f)
		}
		if fmt.Sprint(c.c) != before {
			t.Errorf("%s: what was handed in was changed", name)
		}
	}
}

func TestP28_2Example(t *testing.T) {
	s, err := config.Build(example())
	want := summed("ALC1\x01\x01\x05\x00\x00\x00\x02" + strings.Repeat("\x00", 17) + "\x01\x00\x03\x00\x00")
	if s != want || err != nil || len(s) != 37 {
		t.Errorf("Build %q, %v; want %q", s, err, want)
	}
}

func TestP28_3AsOfCheck(t *testing.T) {
	for name, c := range cases {
		got, err := config.Parse(summed(body(c.c)))
		want := config.Config{}
		if c.f == fine {
			want = c.c
		}
		if f := faultOf(err); f != c.f || !same(got, want) {
			t.Errorf("%s: Parse %+v, %+v; want %+v, %+v", name, got, f, want, c.f)
		}
	}
}

func TestP28_3Faults(t *testing.T) {
	good := summed(body(example()))
	long := body(whole())
	torn := func(field string, n int) fault { return fault{field, n, api.ErrTorn} }
	try := func(name, s string, want fault) {
		t.Helper()
		c, err := config.Parse(s)
		if got := faultOf(err); got != want || !same(c, config.Config{}) {
			t.Errorf("%s: %+v, %+v; want %+v", name, c, got, want)
		}
		var f *config.Fault
		if !errors.As(err, &f) || !errors.Is(err, want.e) {
			t.Errorf("%s: %v is no such fault", name, err)
		}
	}
	try("nothing", "", torn("magic", 0))
	try("a torn magic", "ALC", torn("magic", 0))
	try("another torn magic", "zzz", torn("magic", 0))
	try("another magic", "ALC2"+good[4:], fault{"magic", 0, api.ErrForm})
	try("another magic alone", "ALR1", fault{"magic", 0, api.ErrForm})
	try("ALC1 alone", "ALC1", torn("guests", 0))
	try("without its last byte", good[:36], torn("sum", 0))
	try("with one more", good+"\x00", fault{"end", 0, api.ErrLong})
	try("twice", good+good, fault{"end", 0, api.ErrLong})
	try("another sum", good[:33]+"\x00\x00\x00\x00", fault{"sum", 0, api.ErrSum})
	try("another sum, and more", good[:33]+"\x00\x00\x00\x00\x00", fault{"sum", 0, api.ErrSum})
	try("a sum ahead of what may not be", body(with(example(), func(c *config.Config) { c.Windows = nil }))+"\x00\x00\x00\x00", fault{"sum", 0, api.ErrSum})
	try("an end ahead of what may not be", summed(body(config.Config{}))+"\x00", fault{"end", 0, api.ErrLong})
	try("200 guests that are not there", "ALC1\xc8", torn("guest", 0))
	// Each byte of all of it is torn by the field that needs it.
	where := func(at int) fault {
		switch {
		case at < 4:
			return torn("magic", 0)
		case at == 4:
			return torn("guests", 0)
		case at < 5+3*23:
			return torn("guest", (at-5)/23)
		case at == 74:
			return torn("windows", 0)
		case at < 75+4*3:
			return torn("window", (at-75)/3)
		case at == 87:
			return torn("channels", 0)
		case at < 88+10+3*2:
			return torn("channel", 0)
		case at < 104+10+2:
			return torn("channel", 1)
		}
		return torn("sum", 0)
	}
	if len(long) != 116 {
		t.Fatalf("the test's bytes are %d", len(long))
	}
	long = summed(long)
	for at := range len(long) {
		try(fmt.Sprintf("torn at %d", at), long[:at], where(at))
	}
}

func TestP28_4RoundTrip(t *testing.T) {
	for name, c := range cases {
		if c.f != fine {
			continue
		}
		s, err := config.Build(c.c)
		if err != nil {
			t.Fatalf("%s: %v", name, err)
		}
		back, err := config.Parse(s)
		if err != nil || !same(back, c.c) {
			t.Errorf("%s: Parse of Build %+v, %v", name, back, err)
		}
		if again, err := config.Build(back); again != s || err != nil {
			t.Errorf("%s: Build of Parse gives other bytes", name)
		}
	}
	s, _ := config.Build(whole())
	if c, _ := config.Parse(s); !reflect.DeepEqual(c, whole()) {
		t.Errorf("Parse of Build: %+v", c)
	}
}

func TestP28_5OneByteChanged(t *testing.T) {
	s, _ := config.Build(whole())
	for i := range len(s) {
		for b := range 256 {
			if byte(b) == s[i] {
				continue
			}
			if c, err := config.Parse(s[:i] + string([]byte{byte(b)}) + s[i+1:]); err == nil || !same(c, config.Config{}) {
				t.Fatalf("byte %d as %d: a configuration", i, b)
			}
		}
	}
}

func TestP28_5Budgets(t *testing.T) {
	for name, c := range cases {
		if c.f != fine {
			continue
		}
		table, e := frame.New(c.c.Windows, len(c.c.Guests))
		if e != api.OK {
			t.Fatalf("%s: %v", name, e)
		}
		for g := range c.c.Guests {
			if table.Budget(uint8(g)) < 1 {
				t.Errorf("%s: guest %d has no step", name, g)
			}
		}
	}
}
