package network_test

import (
	"fmt"
	"strings"
	"testing"

	"versine/api"
	"versine/network"
)

// shownText is the text of the network E.
const shownText = "line up\npiece 100 5000 up\npiece 50 5080 up\npiece 30 5200 down\nline side\npiece 40 0 up\nswitch w up 120 side first\nstructure arch bridge up 130 150\n"

// text writes the text of a network.
func text(n network.Network) string {
	s := ""
	for _, l := range n.Lines {
		s += "line " + l.Name + "\n"
		for _, p := range l.Pieces {
			s += fmt.Sprintf("piece %d %d %s\n", p.Length, p.Post, map[bool]string{false: "up", true: "down"}[p.Back])
		}
	}
	for _, x := range n.Switches {
		s += fmt.Sprintf("switch %s %s %d %s %s\n", x.Name, x.Line, x.Metre, x.Other, map[bool]string{false: "first", true: "last"}[x.Last])
	}
	for _, x := range n.Structures {
		s += fmt.Sprintf("structure %s %s %s %d %d\n", x.Name, x.Kind, x.Line, x.Span.From, x.Span.To)
	}
	return s
}

func TestPrint(t *testing.T) {
	last := crossing(joint("a", 4, "b", true), joint("b", 7, "c", false))
	for i, x := range []struct {
		n network.Network
		s string
	}{
		{shown(), shownText},
		{network.Network{}, ""},
		{later(), "line main\npiece 300 1000 up\n"},
		{last, "line b\npiece 10 0 up\nline a\npiece 10 0 up\nline c\npiece 10 0 up\nline d\npiece 10 0 up\nswitch wa a 4 b last\nswitch wb b 7 c first\n"},
		{ring(), text(ring())},
	} {
		s, e := network.Print(x.n)
		want(t, "Print", list(i, s, e), list(i, x.s, api.OK))
	}
	for i, x := range badNetworks() {
		s, e := network.Print(x.x)
		want(t, "Print of a bad network", list(i, s, e), list(i, "", x.e))
	}
}

// TestPrintOfMuch checks the longest text, which is printed, but is too long to be parsed.
func TestPrintOfMuch(t *testing.T) {
	s, e := network.Print(full())
	want(t, "Print", list(s, len(s) > api.MaxText, e), list(text(full()), true, api.OK))
	n, line, e := network.Parse(s)
	want(t, "Parse", list(n, line, e), list(network.Network{}, 0, api.ErrLong))
}

func TestParse(t *testing.T) {
	n, line, e := network.Parse(shownText)
	want(t, "Parse", list(n, line, e), list(shown(), 0, api.OK))
	n, line, e = network.Parse("")
	want(t, "Parse of nothing", list(n, line, e), list(network.Network{}, 0, api.OK))
	g := source(9)
	for range 300 {
		n := someNetwork(g)
		s := text(n)
		back, line, e := network.Parse(s)
		want(t, "Parse", list(s, back, line, e), list(s, n, 0, api.OK))
		back, line, e = network.Parse(s[:len(s)-1])
		want(t, "Parse without the last byte", list(s, back, line, e), list(s, network.Network{}, strings.Count(s, "\n")-1, api.ErrSyntax))
	}
}

func TestParseOfWrongLines(t *testing.T) {
	for i, x := range []struct {
		s    string
		line int
		e    api.Errno
	}{
		{"\n", 0, api.ErrSyntax}, {" \n", 0, api.ErrSyntax}, {"x", 0, api.ErrSyntax},
		{"line a", 0, api.ErrSyntax}, {"line\n", 0, api.ErrSyntax}, {"line \n", 0, api.ErrSyntax}, {"line a b\n", 0, api.ErrSyntax},
		{"line a \n", 0, api.ErrSyntax}, {"line  a\n", 0, api.ErrSyntax}, {" line a\n", 0, api.ErrSyntax}, {"Line a\n", 0, api.ErrSyntax},
		{"lines a\n", 0, api.ErrSyntax}, {"a line\n", 0, api.ErrSyntax},
		{"line a\npiece 1 0 up", 1, api.ErrSyntax}, {"line a\n\npiece 1 0 up\n", 1, api.ErrSyntax}, {"line a\npiece 1 0 up\n\n", 2, api.ErrSyntax},
		{"line a\npiece 1 0\n", 1, api.ErrSyntax}, {"line a\npiece 1 0 \n", 1, api.ErrSyntax}, {"line a\npiece 1 up\n", 1, api.ErrSyntax},
		{"line a\npiece 1 0 up up\n", 1, api.ErrSyntax}, {"line a\npiece 1 0 left\n", 1, api.ErrSyntax}, {"line a\npiece 1 0 Up\n", 1, api.ErrSyntax},
		{"line a\npiece 01 0 up\n", 1, api.ErrSyntax}, {"line a\npiece 1 00 up\n", 1, api.ErrSyntax}, {"line a\npiece -1 0 up\n", 1, api.ErrSyntax},
		{"line a\npiece 1 +1 up\n", 1, api.ErrSyntax}, {"line a\npiece 1 1x up\n", 1, api.ErrSyntax}, {"line a\npiece 1000000000 0 up\n", 1, api.ErrSyntax},
		{"line a\npiece 1 0 up\r\n", 1, api.ErrSyntax}, {"line a\npiece\t1 0 up\n", 1, api.ErrSyntax}, {"line a\npiece 1 \u0663 up\n", 1, api.ErrSyntax},
		{"piece 1 0 up\nline a\n", 0, api.ErrSyntax}, {"piece x\n", 0, api.ErrSyntax},
		{"line a\npiece 1 0 up\nswitch w a 0 b\n", 2, api.ErrSyntax}, {"line a\npiece 1 0 up\nswitch w a 0 b up\n", 2, api.ErrSyntax},
		{"line a\npiece 1 0 up\nswitch w a x b first\n", 2, api.ErrSyntax}, {"line a\npiece 1 0 up\nswitch w a 0 first\n", 2, api.ErrSyntax},
		{"line a\npiece 1 0 up\nswitch w a 0 b first last\n", 2, api.ErrSyntax}, {"line a\npiece 1 0 up\nswitch  a 0 b first\n", 2, api.ErrSyntax},
		{"line a\npiece 1 0 up\nswitch w  0 b first\n", 2, api.ErrSyntax}, {"line a\npiece 1 0 up\nswitch w a 0  first\n", 2, api.ErrSyntax},
		{"line a\npiece 1 0 up\nstructure s k a 0\n", 2, api.ErrSyntax}, {"line a\npiece 1 0 up\nstructure s k a 0 1 2\n", 2, api.ErrSyntax},
		{"line a\npiece 1 0 up\nstructure s k a 0 x\n", 2, api.ErrSyntax}, {"line a\npiece 1 0 up\nstructure s k a 00 1\n", 2, api.ErrSyntax},
		{"line a\npiece 1 0 up\nstructure s  a 0 1\n", 2, api.ErrSyntax},
		// Lines of an earlier kind.
		{"line a\npiece 1 0 up\nstructure s k a 0 1\nline b\n", 3, api.ErrSyntax},
		{"line a\npiece 1 0 up\nstructure s k a 0 1\npiece 1 0 up\n", 3, api.ErrSyntax},
		{"line a\npiece 1 0 up\nstructure s k a 0 1\nswitch w a 0 b first\n", 3, api.ErrSyntax},
		{"line a\npiece 1 0 up\nswitch w a 0 b first\nline b\n", 3, api.ErrSyntax},
		{"line a\nswitch w a 0 b first\npiece 1 0 up\n", 2, api.ErrSyntax},
		// The first line decides, also before errors of the network.
		{"line 9\npiece 0 0 up\nline 9\nx\n", 3, api.ErrSyntax}, {"line a\nx\ny\n", 1, api.ErrSyntax},
		// Without such a line, the error of the network.
		{"line 9\npiece 1 0 up\n", 2, api.ErrName}, {"line a\n", 1, api.ErrEmpty}, {"line a\npiece 0 0 up\n", 2, api.ErrRange},
		{"line a\r\npiece 1 0 up\n", 2, api.ErrName}, {"line \xff\npiece 1 0 up\n", 2, api.ErrName},
		{"line a\npiece 999999999 999999999 down\n", 2, api.ErrRange}, {"line a\npiece 2 0 down\n", 2, api.ErrLarge},
		{"line a\npiece 1 0 up\nline a\npiece 1 0 up\n", 4, api.ErrTwice},
		{strings.Repeat("line a\npiece 1 0 up\n", 9), 18, api.ErrMany},
		{"line a\n" + strings.Repeat("piece 1 0 up\n", 9), 10, api.ErrMany},
		{"switch w a 0 b first\n", 1, api.ErrUnknown}, {"structure s k a 0 1\n", 1, api.ErrUnknown},
		{"line a\npiece 1 0 up\nstructure s 1 a 0 1\n", 3, api.ErrKind}, {"line a\npiece 1 0 up\nstructure s k a 0 2\n", 3, api.ErrSpan},
	} {
		n, line, e := network.Parse(x.s)
		want(t, fmt.Sprintf("Parse of %q", x.s), list(i, n, line, e), list(i, network.Network{}, x.line, x.e))
	}
}

func TestParseOfLongTexts(t *testing.T) {
	for size, e := range map[int]api.Errno{4096: api.ErrSyntax, 4097: api.ErrLong} {
		n, line, got := network.Parse(shownText + strings.Repeat("x", size-len(shownText)))
		wanted := map[api.Errno]int{api.ErrSyntax: 8, api.ErrLong: 0}[e]
		want(t, "Parse of a long text", list(size, n, line, got), list(size, network.Network{}, wanted, e))
	}
	n := full()
	n.Structures = n.Structures[:14]
	s, e := network.Print(n)
	back, line, got := network.Parse(s)
	want(t, "Parse", list(len(s) <= api.MaxText, back, line, e, got), list(true, n, 0, api.OK, api.OK))
}
