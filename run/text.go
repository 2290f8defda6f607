package run

import (
	"strconv"
	"strings"

	"almonry/api"
	"almonry/event"
	"almonry/system"
)

// The actions that have a word, as the monitor numbers them.
const (
	_ = iota
	ignore
	warm
	cold
	halt
)

func number(n uint64) string {
	return strconv.FormatUint(n, 10)
}

// line is parts with a byte 32 between, and a byte 10 behind.
func line(parts ...string) string {
	return strings.Join(parts, " ") + "\n"
}

// kindWord tells the word of what is put out; the number of another kind.
func kindWord(kind uint8) string {
	switch kind {
	case api.Sent:
		return "sent"
	case api.Acted:
		return "acted"
	case api.Fault:
		return "fault"
	}
	return number(uint64(kind))
}

// actionWord tells the word of an action; the number of another one.
func actionWord(action uint64) string {
	switch action {
	case ignore:
		return "ignore"
	case warm:
		return "warm"
	case cold:
		return "cold"
	case halt:
		return "halt"
	}
	return number(action)
}

// whyWord tells the word of a reason; the number of another one.
func whyWord(why uint8) string {
	switch why {
	case event.Malformed:
		return "malformed"
	case event.Unknown:
		return "unknown"
	case event.Late:
		return "late"
	}
	return number(uint64(why))
}

// Text tells the lines of what was put out.
func Text(l []api.Output) string {
	var text strings.Builder
	for _, x := range l {
		v := number(x.V)
		if x.Kind == api.Acted {
			v = actionWord(x.V)
		}
		text.WriteString(line(number(x.T), number(uint64(x.Guest)), kindWord(x.Kind), v))
	}
	return text.String()
}

// Missed tells the lines of what was dropped.
func Missed(l []event.Drop) string {
	var text strings.Builder
	for _, d := range l {
		text.WriteString(line("missed", strconv.Itoa(d.N), whyWord(d.Why)))
	}
	return text.String()
}

// Counts tells a line of each guest below a number. No guest has a number that a byte can't say: it counts nothing.
func Counts(s *system.System, guests int) string {
	var text strings.Builder
	for i := range guests {
		var c system.Counts
		if i <= 255 {
			c = s.Counts(uint8(i))
		}
		text.WriteString(line("guest", strconv.Itoa(i), number(c.Retired), number(c.Trapped), number(c.Idle), number(c.Restarted), number(c.Halted)))
	}
	return text.String()
}
