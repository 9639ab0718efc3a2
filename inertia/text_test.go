package inertia_test

import (
	"fmt"
	"math/rand/v2"
	"strings"
	"testing"

	"versine/api"
	"versine/inertia"
)

// text writes the text of channels.
func text(l []inertia.Channel) string {
	s := ""
	for _, c := range l {
		s += fmt.Sprintf("channel %s %d %d %d\n", c.Name, int(c.Offset*16), c.Num, c.Den)
	}
	return s
}

// someChannels returns up to so many channels with different names.
func someChannels(g *rand.Rand, most int) []inertia.Channel {
	l := make([]inertia.Channel, g.IntN(most+1))
	for i := range l {
		name := fmt.Sprintf("%c%d", 'A'+rune(g.IntN(26)), i)
		l[i] = inertia.Channel{Name: name, Offset: float32(between(g, -16384, 16384)) / 16, Num: between(g, 1, 1000), Den: between(g, 1, 1000)}
	}
	return l
}

// named returns n channels with different names of 24 bytes.
func named(n int) []inertia.Channel {
	l := make([]inertia.Channel, n)
	for i := range l {
		l[i] = inertia.Channel{Name: fmt.Sprintf("channel_%016d", i), Offset: -1024, Num: 1000, Den: 1000}
	}
	return l
}

func TestPrint(t *testing.T) {
	for i, x := range []struct {
		l []inertia.Channel
		s string
	}{
		{nil, ""},
		{[]inertia.Channel{left()}, "channel left 16 3 2\n"},
		{[]inertia.Channel{plain(minusZero), left()}, "channel plain 0 1 1\nchannel left 16 3 2\n"},
		{[]inertia.Channel{{Name: "b", Offset: -0.0625, Num: 1000, Den: 1}, {Name: "B", Offset: 1024, Num: 1, Den: 1000}, {Name: "a", Offset: -1024, Num: 2, Den: 4}},
			"channel b -1 1000 1\nchannel B 16384 1 1000\nchannel a -16384 2 4\n"},
	} {
		s, e := inertia.Print(x.l)
		want(t, "Print", list(i, s, e), list(i, x.s, api.OK))
		back, line, e := inertia.Parse(s)
		want(t, "Parse", list(i, back, line, e), list(i, x.l, 0, api.OK))
	}
	// The text of as many channels as there may be is longer than Parse takes.
	s, e := inertia.Print(named(256))
	want(t, "Print of many channels", list(s, e), list(text(named(256)), api.OK))
}

func TestPrintOfBadChannels(t *testing.T) {
	for i, x := range badChannels() {
		for _, l := range [][]inertia.Channel{{x.c}, {left(), x.c}, {left(), x.c, left()}, {x.c, {}}} {
			s, e := inertia.Print(l)
			want(t, "Print of a bad channel", list(i, s, e), list(i, "", x.e))
		}
	}
	bad := left()
	bad.Offset = nan
	for i, x := range []struct {
		l []inertia.Channel
		e api.Errno
	}{
		{named(257), api.ErrMany},
		{append(named(256), inertia.Channel{}), api.ErrMany},
		{constant(inertia.Channel{}, 257), api.ErrMany},
		{[]inertia.Channel{left(), left()}, api.ErrTwice},
		{[]inertia.Channel{left(), plain(0), {Name: "left", Offset: 2, Num: 5, Den: 7}, {}}, api.ErrTwice},
		// The first channel with an error decides, with its own errors first.
		{[]inertia.Channel{left(), bad, left()}, api.ErrForm},
		{[]inertia.Channel{left(), left(), bad}, api.ErrTwice},
		{append(named(255), named(1)...), api.ErrTwice},
	} {
		s, e := inertia.Print(x.l)
		want(t, "Print of bad channels", list(i, s, e), list(i, "", x.e))
	}
}

func TestParse(t *testing.T) {
	g := source(21)
	for range 500 {
		l := someChannels(g, 20)
		s := text(l)
		back, line, e := inertia.Parse(s)
		want(t, "Parse", list(s, back, line, e), list(s, l, 0, api.OK))
		if len(l) > 0 {
			back, line, e = inertia.Parse(s[:len(s)-1])
			want(t, "Parse without the last byte", list(s, back, line, e), list(s, []inertia.Channel(nil), len(l)-1, api.ErrSyntax))
		}
	}
	for i, x := range []struct {
		s string
		l []inertia.Channel
	}{
		{"", nil},
		{"channel a 0 1 1\n", []inertia.Channel{{Name: "a", Num: 1, Den: 1}}},
		{"channel channel 16384 1000 1000\nchannel b -16384 1 1\n", []inertia.Channel{{Name: "channel", Offset: 1024, Num: 1000, Den: 1000}, {Name: "b", Offset: -1024, Num: 1, Den: 1}}},
	} {
		got, line, e := inertia.Parse(x.s)
		want(t, "Parse", list(i, got, line, e), list(i, x.l, 0, api.OK))
	}
}

// shownLine is a line without an error.
const shownLine = "channel left 16 3 2\n"

func TestParseOfWrongLines(t *testing.T) {
	for i, s := range []string{
		"\n", " ", " \n", "x", "x\n", "channel", "channel\n", "channel \n", "channel a\n", "channel a 0\n", "channel a 0 1\n", "channel a 0 1 \n",
		"channel a 0 1 1", "channel a 0 1 1 \n", "channel a 0 1 1 1\n", "channel  a 0 1 1\n", "channel a  0 1 1\n", "channel a 0  1 1\n",
		"channel a 0 1  1\n", " channel a 0 1 1\n", "Channel a 0 1 1\n", "channels a 0 1 1\n", "chanel a 0 1 1\n", "a 0 1 1\n", "channel  0 1 1\n",
		"channel\ta 0 1 1\n", "channel a\t0 1 1\n", "channel a 0 1 1\r\n", "\r\n", "channel a 0 1 1\t\n",
		"channel a x 1 1\n", "channel a 0 x 1\n", "channel a 0 1 x\n", "channel a -0 1 1\n", "channel a 0 -0 1\n", "channel a 0 1 -0\n",
		"channel a 00 1 1\n", "channel a 0 01 1\n", "channel a 0 1 01\n", "channel a -01 1 1\n", "channel a +1 1 1\n", "channel a 0 +1 1\n",
		"channel a - 1 1\n", "channel a --1 1 1\n", "channel a 1- 1 1\n", "channel a 1.5 1 1\n", "channel a 0x1 1 1\n", "channel a 1_0 1 1\n", "channel a \u0663 1 1\n",
		"channel a 1234567890 1 1\n", "channel a -1234567890 1 1\n", "channel a 0 1234567890 1\n", "channel a 0 1 1234567890\n", "channel a 0 1 -1234567890\n", "channel a 0 1 99999999999999999999\n",
		"\xff\n", "\x00\n",
	} {
		got, line, e := inertia.Parse(s)
		want(t, "Parse of a wrong line", list(i, s, got, line, e), list(i, s, []inertia.Channel(nil), 0, api.ErrSyntax))
		got, line, e = inertia.Parse(shownLine + shownLine + s)
		want(t, "Parse of a wrong last line", list(i, s, got, line, e), list(i, s, []inertia.Channel(nil), 2, api.ErrSyntax))
		if !strings.HasSuffix(s, "\n") {
			continue
		}
		// The first line with an error decides, also before errors of the channels.
		got, line, e = inertia.Parse("channel 9 99999 0 0\n" + s + "y\n" + shownLine)
		want(t, "Parse of wrong lines", list(i, s, got, line, e), list(i, s, []inertia.Channel(nil), 1, api.ErrSyntax))
	}
}

func TestParseOfBadChannels(t *testing.T) {
	for i, x := range []struct {
		s    string
		line int
		e    api.Errno
	}{
		// An integer that is none of a sample, of any channel, before all else.
		{"channel left 16 3 2\nchannel right 16385 0 1\n", 2, api.ErrRange},
		{"channel a 16385 1 1\n", 1, api.ErrRange},
		{"channel a -16385 1 1\n", 1, api.ErrRange},
		{"channel a 999999999 1 1\n", 1, api.ErrRange},
		{"channel a -999999999 1 1\n", 1, api.ErrRange},
		{"channel 9 0 1 1\nchannel a 0 1 1\nchannel a 16385 1 1\n", 3, api.ErrRange},
		{"channel a 0 1 1\nchannel a 0 1 1\nchannel b 16385 1 1\n", 3, api.ErrRange},
		// Then the error of Print.
		{"channel 9 16384 0 0\n", 1, api.ErrName},
		{"channel a.b 0 1 1\n", 1, api.ErrName},
		{"channel \xff 0 1 1\n", 1, api.ErrName},
		{"channel a\tb 0 1 1\n", 1, api.ErrName},
		{"channel a\r 0 1 1\n", 1, api.ErrName},
		{"channel aaaaaaaaaaaaaaaaaaaaaaaaa 0 1 1\n", 1, api.ErrName},
		{"channel a 0 0 1\n", 1, api.ErrRange},
		{"channel a 0 -1 1\n", 1, api.ErrRange},
		{"channel a 0 1001 1\n", 1, api.ErrRange},
		{"channel a 0 999999999 1\n", 1, api.ErrRange},
		{"channel a 0 1 0\n", 1, api.ErrRange},
		{"channel a 0 1 -999999999\n", 1, api.ErrRange},
		{"channel a 0 1 1001\n", 1, api.ErrRange},
		{"channel a 0 1 1\nchannel a 0 1 1\n", 2, api.ErrTwice},
		{"channel a 0 1 1\nchannel a 5 6 7\nchannel 9 0 1 1\n", 3, api.ErrTwice},
		{"channel a 0 1 1\nchannel 9 0 1 1\nchannel a 0 1 1\n", 3, api.ErrName},
		{"channel a 0 1 1\nchannel a 0 0 1\n", 2, api.ErrRange},
		{strings.Repeat("channel a 0 1 1\n", 256), 256, api.ErrTwice},
	} {
		got, line, e := inertia.Parse(x.s)
		want(t, fmt.Sprintf("Parse of %.60q", x.s), list(i, got, line, e), list(i, []inertia.Channel(nil), x.line, x.e))
	}
}

func TestParseOfLongTexts(t *testing.T) {
	long := named(81) // 4050 bytes
	for i, x := range []struct {
		s    string
		line int
		e    api.Errno
	}{
		{strings.Repeat("x", 4096), 0, api.ErrSyntax},
		{strings.Repeat("x", 4097), 0, api.ErrLong},
		{strings.Repeat("\n", 4097), 0, api.ErrLong},
		{text(long) + strings.Repeat("x", 4096-len(text(long))), 81, api.ErrSyntax},
		{text(long) + strings.Repeat("x", 4097-len(text(long))), 0, api.ErrLong},
		{strings.Repeat("channel a 0 1 1\n", 257), 0, api.ErrLong},
		{text(named(256)), 0, api.ErrLong},
	} {
		got, line, e := inertia.Parse(x.s)
		want(t, "Parse of a long text", list(i, got, line, e), list(i, []inertia.Channel(nil), x.line, x.e))
	}
	whole := append(long, inertia.Channel{Name: strings.Repeat("z", 23), Offset: -1024, Num: 1000, Den: 1})
	got, line, e := inertia.Parse(text(whole))
	want(t, "Parse of a text of 4096 bytes", list(len(text(whole)), got, line, e), list(4096, whole, 0, api.OK))
}
