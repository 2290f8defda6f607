package run_test

import (
	"errors"
	"fmt"
	"slices"
	"strings"
	"testing"

	"almonry/api"
	"almonry/asm"
	"almonry/codec"
	"almonry/config"
	"almonry/event"
	"almonry/image"
	"almonry/run"
	"almonry/system"
)

const base = 0x80000000

func program(t *testing.T, lines ...string) image.Image {
	t.Helper()
	s, n, e := asm.Assemble(strings.Join(lines, "\n"))
	if e != api.OK {
		t.Fatalf("line %d: %v", n, e)
	}
	return image.Image{Entry: base, L: []image.Segment{{At: base, Bytes: s}}}
}

// policy is a guest of one page, with actions by pairs of fault and action.
func policy(limit uint32, restart uint8, actions ...uint8) api.Guest {
	g := api.Guest{Pages: 1, Limit: limit, Restart: restart}
	for i := 0; i < len(actions); i += 2 {
		g.Actions[actions[i]] = actions[i+1]
	}
	return g
}

// one is a script of one guest, with one window of one step.
func one(g api.Guest, x image.Image, l ...api.Event) run.Script {
	return run.Script{Config: config.Config{Guests: []api.Guest{g}, Windows: []api.Window{{Guest: 0, Steps: 1}}}, Images: []image.Image{x}, Events: l}
}

func built(t *testing.T, x run.Script) string {
	t.Helper()
	s, err := run.Build(x)
	if err != nil {
		t.Fatalf("Build: %v", err)
	}
	return s
}

func comes(t *testing.T, name, s string, steps int, want string, wantE api.Errno) {
	t.Helper()
	text, e := run.Run(s, steps)
	if got := strings.TrimSuffix(strings.ReplaceAll(text, "\n", "; "), "; "); got != want || e != wantE || text != "" && !strings.HasSuffix(text, "\n") {
		t.Errorf("%s: %q, %v; want %q, %v", name, got, e, want, wantE)
	}
}

// TestTenExamples: the document's.
func TestTenExamples(t *testing.T) {
	send := program(t, "lui x5,65536", "addi x6,x0,97", "sb x6,0(x5)", "jal x0,0")
	loop := program(t, "jal x0,0")
	ev := func(at uint32, guest, kind uint8) api.Event {
		return api.Event{T: at, Guest: guest, Kind: kind, Value: 1}
	}
	two := one(policy(0, 0), send)
	two.Config.Guests = append(two.Config.Guests, policy(0, 0))
	two.Config.Windows = append(two.Config.Windows, api.Window{Guest: 1, Steps: 1})
	two.Images = append(two.Images, send)
	comes(t, "1", built(t, one(policy(0, 0), send)), 9, "2 0 sent 97", api.OK)
	comes(t, "2", built(t, one(policy(0, 0, 2, api.Warm), program(t, ".word 0"))), 9, "0 0 fault 2; 1 0 acted halt", api.OK)
	comes(t, "3", built(t, one(policy(3, 1, api.Watchdog, api.Cold), loop)), 8, "2 0 fault 16; 3 0 acted cold; 6 0 fault 16; 7 0 acted halt", api.OK)
	comes(t, "4", built(t, one(policy(3, 1, api.Watchdog, api.Ignore), loop)), 7, "2 0 fault 16; 5 0 fault 16", api.OK)
	wait := built(t, one(policy(0, 0), program(t, "wfi", "jal x0,0")))
	comes(t, "5", wait, 5, "", api.OK)
	y, _, err := run.Start(wait)
	if err != nil {
		t.Fatal(err)
	}
	y.Run(5)
	if got := run.Counts(y, 1); got != "guest 0 1 0 4 0 0\n" {
		t.Errorf("5: Counts %q", got)
	}
	comes(t, "6", built(t, one(policy(0, 0), program(t, "lui x5,65536", "lbu x6,0(x5)", "sb x6,0(x5)", "jal x0,0"), api.Event{T: 0, Kind: api.Input, Value: 104})), 9, "2 0 sent 104", api.OK)
	comes(t, "7", built(t, two), 6, "4 0 sent 97; 5 1 sent 97", api.OK)
	comes(t, "8", built(t, one(policy(0, 0), loop, ev(0, 9, api.Input), ev(1, 0, 7), ev(6, 0, api.Input), ev(5, 0, api.Input))), 9, "missed 0 unknown; missed 1 malformed; missed 3 late", api.OK)
	none := one(policy(0, 0), loop)
	s := built(t, none)
	c, _ := config.Build(none.Config)
	bad := "ALC1" + c[4:28] + "\x00\x00"
	bad += codec.Put(codec.Field{N: uint64(codec.Sum(bad)), Width: 4})
	comes(t, "9", "ALR1"+codec.Put(codec.Field{N: uint64(len(bad)), Width: 4})+bad+s[8+len(c):], 9, "", api.ErrNone)
	comes(t, "10", s[:len(s)-1]+string([]byte{s[len(s)-1] ^ 1}), 9, "", api.ErrSum)
}

// example is the chapter of system's, as a script.
func example(t *testing.T) run.Script {
	t.Helper()
	x := one(policy(0, 1, 2, api.Warm), program(t, "lui x5,65536", "addi x6,x0,97", "sb x6,0(x5)", ".word 0"))
	x.Config.Windows[0].Steps = 4
	return x
}

func TestP32_4Examples(t *testing.T) {
	s := built(t, example(t))
	comes(t, "12 steps", s, 12, "2 0 sent 97; 3 0 fault 2; 4 0 acted warm; 7 0 sent 97; 8 0 fault 2; 9 0 acted halt", api.OK)
	comes(t, "abc behind", s+"abc", 0, "missed 0 malformed", api.OK)
	comes(t, "steps below 0", s+"abc", -5, "missed 0 malformed", api.OK)
	comes(t, "abc behind, steps", s+"abc", 3, "missed 0 malformed; 2 0 sent 97", api.OK)
	comes(t, "nothing", "", 5, "", api.ErrTorn)
	comes(t, "ALR2", "ALR2", 5, "", api.ErrForm)
	comes(t, "without the last one", s[:len(s)-1], 5, "", api.ErrTorn)
}

type broken struct{}

func (broken) Error() string { return "broken" }

func TestP32_1Faults(t *testing.T) {
	inner := &config.Fault{Field: "guest", N: 3, E: api.ErrForm}
	var none *run.Fault
	for name, c := range map[string]struct {
		err  error
		text string
		code api.Errno
	}{
		"magic":           {&run.Fault{Part: "magic", Err: api.ErrTorn}, "magic: torn", api.ErrTorn},
		"config":          {&run.Fault{Part: "config", Guest: 9, Err: inner}, "config: guest 3: form", api.ErrForm},
		"image":           {&run.Fault{Part: "image", Guest: 0, Err: &image.Fault{Field: "sum", At: 77, E: api.ErrSum}}, "image 0: sum at 77: sum", api.ErrSum},
		"another image":   {&run.Fault{Part: "image", Guest: 12, Err: api.ErrArg}, "image 12: argument", api.ErrArg},
		"no number in it": {&run.Fault{Part: "config", Err: broken{}}, "config: broken", api.ErrArg},
		"a wrapped one":   {fmt.Errorf("more: %w", &run.Fault{Part: "config", Err: inner}), "more: config: guest 3: form", api.ErrForm},
		"a number":        {api.ErrAlign, "align", api.ErrAlign},
		"another error":   {broken{}, "broken", api.ErrArg},
		"a nil fault":     {none, "", api.ErrArg},
	} {
		if got := c.err.Error(); got != c.text {
			t.Errorf("%s: Error %q, want %q", name, got, c.text)
		}
		if got := run.Code(c.err); got != c.code {
			t.Errorf("%s: Code %v, want %v", name, got, c.code)
		}
	}
	if run.Code(nil) != api.OK || none.Unwrap() != nil || (&run.Fault{Part: "config"}).Unwrap() != nil {
		t.Error("of nil")
	}
	f := &run.Fault{Part: "config", Err: inner}
	if got, ok := f.Unwrap().(*config.Fault); !ok || got != inner {
		t.Errorf("Unwrap: %v", f.Unwrap())
	}
	empty := &run.Fault{Part: "config"}
	_ = empty.Error() // it must not panic
}

func le(n int, width int) string { return codec.Put(codec.Field{N: uint64(n), Width: width}) }

// parts lays a script by hand.
func parts(cfg string, images []string, events string) string {
	s := "ALR1" + le(len(cfg), 4) + cfg
	for _, x := range images {
		s += le(len(x), 4) + x
	}
	return s + events
}

func pair(t *testing.T) run.Script {
	t.Helper()
	x := one(policy(7, 1, 2, api.Cold), program(t, "jal x0,0"), api.Event{T: 3, Guest: 1, Kind: api.Input, Value: 200}, api.Event{T: 3, Guest: 0, Kind: api.Line, Value: 9}, api.Event{T: 4, Guest: 1, Kind: api.Delay, Value: 65535})
	x.Config.Guests = append(x.Config.Guests, api.Guest{Pages: 2})
	x.Config.Windows = append(x.Config.Windows, api.Window{Guest: 1, Steps: 2})
	x.Config.Channels = []api.Channel{{Kind: 1, Guest: 0, Port: 1, Most: 8, Depth: 2, To: []api.End{{Guest: 1, Port: 2}}}}
	x.Images = append(x.Images, image.Image{Entry: base + 4096, L: []image.Segment{{At: base + 4, Bytes: "some"}, {At: base + 4096, Bytes: "more"}}})
	return x
}

func same(a, b run.Script) bool {
	return fmt.Sprint(a.Config) == fmt.Sprint(b.Config) && fmt.Sprint(a.Images) == fmt.Sprint(b.Images) && slices.Equal(a.Events, b.Events) && slices.Equal(a.Dropped, b.Dropped)
}

func TestP32_2Build(t *testing.T) {
	x := pair(t)
	cfg, _ := config.Build(x.Config)
	i0, _ := image.Build(x.Images[0], 1)
	i1, _ := image.Build(x.Images[1], 2)
	want := parts(cfg, []string{i0, i1}, event.Build(x.Events))
	if s := built(t, x); s != want {
		t.Errorf("Build %q, want %q", s, want)
	}
	x.Dropped = []event.Drop{{N: 7, Why: 1}} // makes no difference
	before := fmt.Sprint(x)
	if s := built(t, x); s != want || fmt.Sprint(x) != before {
		t.Errorf("Build with drops %q, want %q", s, want)
	}
	for name, c := range map[string]struct {
		change func(x *run.Script)
		part   string
		guest  int
		e      api.Errno
		text   string
	}{
		"a configuration":       {func(x *run.Script) { x.Config.Windows = nil }, "config", 0, api.ErrNone, "config: windows 0: none"},
		"a configuration ahead": {func(x *run.Script) { x.Config.Guests[1].Pages = 0; x.Images = nil }, "config", 0, api.ErrRange, "config: guest 1: range"},
		"no images":             {func(x *run.Script) { x.Images = nil }, "image", 0, api.ErrArg, "image 0: argument"},
		"one image":             {func(x *run.Script) { x.Images = x.Images[:1]; x.Images[0].Entry = 1 }, "image", 0, api.ErrArg, "image 0: argument"},
		"three images":          {func(x *run.Script) { x.Images = append(x.Images, x.Images[0]) }, "image", 0, api.ErrArg, "image 0: argument"},
		"the first image":       {func(x *run.Script) { x.Images[0].Entry, x.Images[1].Entry = base+1, 0 }, "image", 0, api.ErrAlign, "image 0: align"},
		"the second image":      {func(x *run.Script) { x.Images[1].Entry = base + 8192 }, "image", 1, api.ErrRange, "image 1: range"},
		"of its pages":          {func(x *run.Script) { x.Images[0] = x.Images[1] }, "image", 0, api.ErrRange, "image 0: range"},
	} {
		x := pair(t)
		c.change(&x)
		s, err := run.Build(x)
		var f *run.Fault
		if s != "" || !errors.As(err, &f) || f.Part != c.part || f.Guest != c.guest || run.Code(err) != c.e || err.Error() != c.text {
			t.Errorf("%s: %q, %v; want %s", name, s, err, c.text)
		}
	}
}

func TestP32_2Parse(t *testing.T) {
	x := pair(t)
	s := built(t, x)
	if got, err := run.Parse(s); err != nil || !same(got, x) {
		t.Errorf("Parse %+v, %v", got, err)
	}
	cfg, _ := config.Build(x.Config)
	i0, _ := image.Build(x.Images[0], 1)
	i1, _ := image.Build(x.Images[1], 2)
	both := []string{i0, i1}
	for name, c := range map[string]struct {
		s     string
		part  string
		guest int
		e     api.Errno
		text  string
	}{
		"nothing":                    {"", "magic", 0, api.ErrTorn, "magic: torn"},
		"a torn magic":               {"zzz", "magic", 0, api.ErrTorn, "magic: torn"},
		"another magic":              {"ALR2" + s[4:], "magic", 0, api.ErrForm, "magic: form"},
		"another magic alone":        {"ALC1", "magic", 0, api.ErrForm, "magic: form"},
		"no length":                  {"ALR1", "config", 0, api.ErrTorn, "config: torn"},
		"a torn length":              {"ALR1\x01\x00\x00", "config", 0, api.ErrTorn, "config: torn"},
		"a torn configuration":       {s[:8+len(cfg)-1], "config", 0, api.ErrTorn, "config: torn"},
		"a great length":             {"ALR1\xff\xff\xff\xff" + s[8:], "config", 0, api.ErrTorn, "config: torn"},
		"no configuration":           {"ALR1\x00\x00\x00\x00", "config", 0, api.ErrTorn, "config: magic 0: torn"},
		"another configuration":      {parts("ALC2"+cfg[4:], both, ""), "config", 0, api.ErrForm, "config: magic 0: form"},
		"a configuration's sum":      {parts(cfg[:len(cfg)-4]+"sum.", both, ""), "config", 0, api.ErrSum, "config: sum 0: sum"},
		"a longer configuration":     {parts(cfg+"x", both, ""), "config", 0, api.ErrLong, "config: end 0: long"},
		"a shorter one":              {parts(cfg[:len(cfg)-1], both, ""), "config", 0, api.ErrTorn, "config: sum 0: torn"},
		"no image":                   {parts(cfg, nil, ""), "image", 0, api.ErrTorn, "image 0: torn"},
		"a torn image's length":      {parts(cfg, nil, "\x05\x00\x00"), "image", 0, api.ErrTorn, "image 0: torn"},
		"a torn image":               {parts(cfg, nil, le(len(i0), 4)+i0[:5]), "image", 0, api.ErrTorn, "image 0: torn"},
		"no second image":            {parts(cfg, both[:1], ""), "image", 1, api.ErrTorn, "image 1: torn"},
		"a torn second image":        {parts(cfg, both, "")[:len(parts(cfg, both, ""))-1], "image", 1, api.ErrTorn, "image 1: torn"},
		"an image's sum":             {parts(cfg, []string{i0[:len(i0)-1] + "?", i1}, ""), "image", 0, api.ErrSum, fmt.Sprintf("image 0: sum at %d: sum", len(i0)-4)},
		"a second image's magic":     {parts(cfg, []string{i0, "ALMX" + i1[4:]}, ""), "image", 1, api.ErrForm, "image 1: magic at 0: form"},
		"an image of more pages":     {parts(cfg, []string{i1, i1}, ""), "image", 0, api.ErrRange, "image 0: entry at 4: range"},
		"an empty image":             {parts(cfg, []string{"", i1}, ""), "image", 0, api.ErrTorn, "image 0: magic at 0: torn"},
		"the configuration is first": {parts(cfg[:9]+"\xff"+cfg[10:], []string{"", ""}, ""), "config", 0, api.ErrSum, "config: sum 0: sum"},
	} {
		got, err := run.Parse(c.s)
		var f *run.Fault
		if !same(got, run.Script{}) || !errors.As(err, &f) || f.Part != c.part || f.Guest != c.guest || run.Code(err) != c.e || err.Error() != c.text || !errors.Is(err, c.e) {
			t.Errorf("%s: %+v, %v; want %s", name, got, err, c.text)
		}
		y, z, err := run.Start(c.s)
		if y != nil || !same(z, run.Script{}) || run.Code(err) != c.e {
			t.Errorf("%s: Start %v, %v", name, y, err)
		}
		if text, e := run.Run(c.s, 5); text != "" || e != c.e {
			t.Errorf("%s: Run %q, %v", name, text, e)
		}
	}
}

func TestP32_2Drops(t *testing.T) {
	x := pair(t)
	s := built(t, x)
	l := []api.Event{{T: 1, Guest: 2, Kind: api.Input}, {T: 9, Guest: 0, Kind: api.Input, Value: 5}, {T: 8, Guest: 0, Kind: api.Input, Value: 5}, {T: 1, Guest: 1, Kind: 9}}
	got, err := run.Parse(s + event.Build(l) + "torn")
	x.Events = append(x.Events, l[1])
	x.Dropped = []event.Drop{{N: 3, Why: event.Unknown}, {N: 5, Why: event.Late}, {N: 6, Why: event.Malformed}, {N: 7, Why: event.Malformed}}
	if err != nil || !same(got, x) {
		t.Errorf("Parse %+v, %v", got, err)
	}
	if text, e := run.Run(s+event.Build(l)+"torn", 0); text != "missed 3 unknown\nmissed 5 late\nmissed 6 malformed\nmissed 7 malformed\n" || e != api.OK {
		t.Errorf("Run %q, %v", text, e)
	}
}

func TestP32_3Start(t *testing.T) {
	x := pair(t)
	y, z, err := run.Start(built(t, x))
	if err != nil || y == nil || !same(z, x) {
		t.Fatalf("Start %+v, %v", z, err)
	}
	if y.Now() != 0 || y.Left() != 3 || len(y.Trace()) != 0 {
		t.Error("it is ahead of its first step")
	}
	mine, e := system.New(x.Config, x.Images, x.Events)
	if e != api.OK {
		t.Fatal(e)
	}
	for range 100 {
		y.Step()
		mine.Step()
		if y.Guest(0) != mine.Guest(0) || y.Guest(1) != mine.Guest(1) {
			t.Fatal("another system")
		}
	}
}

func TestP32_3Texts(t *testing.T) {
	l := []api.Output{
		{T: 1<<64 - 1, Guest: 255, Kind: api.Sent, V: 97}, {T: 0, Guest: 0, Kind: api.Fault, V: 16},
		{T: 3, Guest: 1, Kind: api.Acted, V: api.Ignore}, {T: 3, Guest: 1, Kind: api.Acted, V: api.Warm}, {T: 3, Guest: 1, Kind: api.Acted, V: api.Cold}, {T: 3, Guest: 1, Kind: api.Acted, V: api.Halt},
		{T: 4, Guest: 2, Kind: api.Acted, V: 0}, {T: 4, Guest: 2, Kind: api.Acted, V: 5}, {T: 4, Guest: 2, Kind: api.Acted, V: 1 << 40},
		{T: 5, Guest: 3, Kind: 0, V: 1}, {T: 5, Guest: 3, Kind: 200, V: 3}, {T: 1, Guest: 9, Kind: api.Sent, V: 3}, {T: 1, Guest: 9, Kind: api.Fault, V: 1},
	}
	want := "18446744073709551615 255 sent 97\n0 0 fault 16\n3 1 acted ignore\n3 1 acted warm\n3 1 acted cold\n3 1 acted halt\n4 2 acted 0\n4 2 acted 5\n4 2 acted 1099511627776\n5 3 0 1\n5 3 200 3\n1 9 sent 3\n1 9 fault 1\n"
	if got := run.Text(l); got != want {
		t.Errorf("Text %q, want %q", got, want)
	}
	d := []event.Drop{{N: 0, Why: 1}, {N: 12, Why: 2}, {N: 3, Why: 3}, {N: 4, Why: 0}, {N: 5, Why: 77}}
	if got := run.Missed(d); got != "missed 0 malformed\nmissed 12 unknown\nmissed 3 late\nmissed 4 0\nmissed 5 77\n" {
		t.Errorf("Missed %q", got)
	}
	if run.Text(nil) != "" || run.Missed(nil) != "" {
		t.Error("of nothing")
	}
}

func TestP32_3Counts(t *testing.T) {
	y, _, err := run.Start(built(t, example(t)))
	if err != nil {
		t.Fatal(err)
	}
	y.Run(12)
	for n, want := range map[int]string{
		-1: "", 0: "", 1: "guest 0 6 2 0 1 3\n", 3: "guest 0 6 2 0 1 3\nguest 1 0 0 0 0 0\nguest 2 0 0 0 0 0\n",
	} {
		if got := run.Counts(y, n); got != want {
			t.Errorf("Counts(%d) %q, want %q", n, got, want)
		}
	}
	if got := run.Counts(nil, 1); got != "guest 0 0 0 0 0 0\n" {
		t.Errorf("Counts of nil %q", got)
	}
	if got := strings.Split(run.Counts(y, 300), "\n"); got[256] != "guest 256 0 0 0 0 0" || len(got) != 301 {
		t.Errorf("Counts(300): %q", got[256])
	}
}

func TestP32_5RoundTrip(t *testing.T) {
	for _, x := range []run.Script{pair(t), example(t), one(policy(0, 0), image.Image{Entry: base})} {
		s := built(t, x)
		back, err := run.Parse(s)
		if err != nil || !same(back, x) {
			t.Errorf("Parse of Build %+v, %v", back, err)
		}
		if again := built(t, back); again != s {
			t.Errorf("Build of Parse %q, want %q", again, s)
		}
	}
}

func TestP32_6Prefix(t *testing.T) {
	s := built(t, example(t)) + "x"
	all, _ := run.Run(s, 40)
	last := ""
	for steps := range 41 {
		text, e := run.Run(s, steps)
		if e != api.OK || !strings.HasPrefix(all, text) || !strings.HasPrefix(text, last) {
			t.Errorf("%d steps: %q, %v", steps, text, e)
		}
		last = text
	}
	if last != all {
		t.Errorf("%q, want %q", last, all)
	}
}

func TestP32_6WhateverBytes(t *testing.T) {
	s := built(t, pair(t))
	r := uint64(1)
	next := func(end uint64) uint64 {
		r = r*6364136223846793005 + 1442695040888963407
		return (r >> 20) % end
	}
	for range 3000 {
		b := []byte(s)
		for range 1 + next(3) {
			b[next(uint64(len(b)))] = byte(next(256))
		}
		bad := string(b[:len(b)-int(next(5)*next(10))])
		t1, e1 := run.Run(bad, 20)
		t2, e2 := run.Run(bad, 20)
		if t1 != t2 || e1 != e2 || e1 != api.OK && t1 != "" {
			t.Fatalf("Run is another one: %q, %v; %q, %v", t1, e1, t2, e2)
		}
	}
	for i := range s[:len(s)-30] { // a byte of the configuration or an image is another one: an error, and nothing
		bad := s[:i] + string([]byte{s[i] ^ 0x41}) + s[i+1:]
		if text, e := run.Run(bad, 5); e == api.OK || text != "" {
			t.Errorf("byte %d: %q, %v", i, text, e)
		}
	}
}

// TestT5Health: what becomes of one guest is nothing to the others, nor to messages already sent.
func TestT5Health(t *testing.T) {
	x := pair(t)
	x.Events = nil
	x.Config.Guests[0] = policy(0, 2, 2, api.Warm)
	x.Config.Guests[1] = api.Guest{Pages: 1}
	x.Images[0] = program(t, "lui x5,65539", "addi x6,x0,1", "addi x7,x0,65", "sb x7,320(x5)", "sw x6,260(x5)", "sw x6,272(x5)", ".word 0")
	x.Images[1] = program(t, "lui x5,65539", "lui x9,65536", "addi x6,x0,2", "sw x6,528(x5)", "lw x7,512(x5)", "bne x7,x0,-8", "lb x8,576(x5)", "sb x8,0(x9)", "jal x0,-20")
	text, e := run.Run(built(t, x), 300)
	if e != api.OK {
		t.Fatal(e)
	}
	if strings.Count(text, " 1 sent 65\n") != 3 || strings.Count(text, " 0 fault 2\n") != 3 || strings.Count(text, " 0 acted warm\n") != 2 || strings.Count(text, " 0 acted halt\n") != 1 || strings.Count(text, "\n") != 9 {
		t.Errorf("%s", text)
	}
}
