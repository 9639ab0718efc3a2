package chord_test

import (
	"fmt"
	"strings"
	"testing"

	"versine/api"
	"versine/chord"
)

// shownText is the text of the trace T with a hole at the index 2.
const shownText = "trace 10 6\nvalue 0\nvalue 1\nhole\nvalue 9\nvalue 16\nvalue 25\n"

// text writes the text of a trace.
func text(t chord.Trace) string {
	s := fmt.Sprintf("trace %d %d\n", t.First, len(t.Values))
	for _, n := range values(t) {
		if n == unknown {
			s += "hole\n"
		} else {
			s += fmt.Sprintf("value %d\n", n)
		}
	}
	return s
}

func TestPrint(t *testing.T) {
	for i, x := range []struct {
		t chord.Trace
		s string
	}{
		{torn(), shownText},
		{squares(), "trace 10 6\nvalue 0\nvalue 1\nvalue 4\nvalue 9\nvalue 16\nvalue 25\n"},
		{chord.Trace{}, "trace 0 0\n"},
		{made(api.MaxPlace), "trace 100000000 0\n"},
		{made(0, unknown, unknown, 0, -1, unknown), "trace 0 5\nhole\nhole\nvalue 0\nvalue -1\nhole\n"},
		{made(7, 1<<30, -1<<30), "trace 7 2\nvalue 1073741824\nvalue -1073741824\n"},
		{made(7, constant(-1<<30, 4096)...), "trace 7 4096\n" + strings.Repeat("value -1073741824\n", 4096)},
		{made(7, constant(unknown, 4096)...), "trace 7 4096\n" + strings.Repeat("hole\n", 4096)},
	} {
		s, e := chord.Print(x.t)
		want(t, "Print", list(i, s, e), list(i, x.s, api.OK))
		back, line, e := chord.Parse(s)
		want(t, "Parse", list(i, back, line, e), list(i, x.t, 0, api.OK))
	}
	for i, x := range badTraces() {
		s, e := chord.Print(x.t)
		want(t, "Print of a bad trace", list(i, s, e), list(i, "", x.e))
	}
}

func TestParse(t *testing.T) {
	g := source(12)
	for range 500 {
		x := someTrace(g, 20)
		s := text(x)
		back, line, e := chord.Parse(s)
		want(t, "Parse", list(s, back, line, e), list(s, x, 0, api.OK))
		back, line, e = chord.Parse(s[:len(s)-1])
		want(t, "Parse without the last byte", list(s, back, line, e), list(s, chord.Trace{}, strings.Count(s, "\n")-1, api.ErrSyntax))
	}
}

func TestParseOfWrongLines(t *testing.T) {
	for i, x := range []struct {
		s    string
		line int
		e    api.Errno
	}{
		{"", 0, api.ErrSyntax}, {"\n", 0, api.ErrSyntax}, {" ", 0, api.ErrSyntax}, {"x", 0, api.ErrSyntax},
		{"trace 0 0", 0, api.ErrSyntax}, {"trace\n", 0, api.ErrSyntax}, {"trace \n", 0, api.ErrSyntax}, {"trace 0\n", 0, api.ErrSyntax},
		{"trace 0 \n", 0, api.ErrSyntax}, {"trace 0 0 \n", 0, api.ErrSyntax}, {"trace 0 0 0\n", 0, api.ErrSyntax}, {"trace  0 0\n", 0, api.ErrSyntax},
		{"trace 0  0\n", 0, api.ErrSyntax}, {" trace 0 0\n", 0, api.ErrSyntax}, {"Trace 0 0\n", 0, api.ErrSyntax}, {"traces 0 0\n", 0, api.ErrSyntax},
		{"trace 00 0\n", 0, api.ErrSyntax}, {"trace 0 00\n", 0, api.ErrSyntax}, {"trace -0 0\n", 0, api.ErrSyntax}, {"trace 0 -0\n", 0, api.ErrSyntax},
		{"trace x 0\n", 0, api.ErrSyntax}, {"trace 0 x\n", 0, api.ErrSyntax}, {"trace +1 0\n", 0, api.ErrSyntax}, {"trace 0 +1\n", 0, api.ErrSyntax},
		{"trace 12345678901 0\n", 0, api.ErrSyntax}, {"trace 0 12345678901\n", 0, api.ErrSyntax}, {"trace\t0 0\n", 0, api.ErrSyntax},
		{"trace 0 0\r\n", 0, api.ErrSyntax}, {"trace \u0663 0\n", 0, api.ErrSyntax}, {"\ntrace 0 0\n", 0, api.ErrSyntax},
		{"value 5\n", 0, api.ErrSyntax}, {"hole\n", 0, api.ErrSyntax}, {"value 5\ntrace 0 1\n", 0, api.ErrSyntax},

		{"trace 0 0\n\n", 1, api.ErrSyntax}, {"trace 0 0\n ", 1, api.ErrSyntax}, {"trace 0 0\ntrace 0 0\n", 1, api.ErrSyntax},
		{"trace 0 1\nvalue 5", 1, api.ErrSyntax}, {"trace 0 1\nhole", 1, api.ErrSyntax}, {"trace 0 1\nvalue\n", 1, api.ErrSyntax},
		{"trace 0 1\nvalue \n", 1, api.ErrSyntax}, {"trace 0 1\nvalue 5 \n", 1, api.ErrSyntax}, {"trace 0 1\nvalue 5 5\n", 1, api.ErrSyntax},
		{"trace 0 1\nvalue  5\n", 1, api.ErrSyntax}, {"trace 0 1\nvalue 05\n", 1, api.ErrSyntax}, {"trace 0 1\nvalue -05\n", 1, api.ErrSyntax},
		{"trace 0 1\nvalue -0\n", 1, api.ErrSyntax}, {"trace 0 1\nvalue -\n", 1, api.ErrSyntax}, {"trace 0 1\nvalue --5\n", 1, api.ErrSyntax},
		{"trace 0 1\nvalue +5\n", 1, api.ErrSyntax}, {"trace 0 1\nvalue 5x\n", 1, api.ErrSyntax}, {"trace 0 1\nvalue 1.5\n", 1, api.ErrSyntax},
		{"trace 0 1\nvalue 12345678901\n", 1, api.ErrSyntax}, {"trace 0 1\nvalue -12345678901\n", 1, api.ErrSyntax},
		{"trace 0 1\nhole 1\n", 1, api.ErrSyntax}, {"trace 0 1\nhole \n", 1, api.ErrSyntax}, {"trace 0 1\n hole\n", 1, api.ErrSyntax},
		{"trace 0 1\nholes\n", 1, api.ErrSyntax}, {"trace 0 1\nHole\n", 1, api.ErrSyntax}, {"trace 0 1\n\xff\n", 1, api.ErrSyntax},
		{"trace 0 2\nvalue 5\n\nvalue 5\n", 2, api.ErrSyntax}, {"trace 0 2\nvalue 5\nx\ny\n", 2, api.ErrSyntax},
		// The first line decides, also before errors of the trace.
		{"trace -1 9\nvalue 9999999999\nvalue x\n", 2, api.ErrSyntax},

		// Without such a line, as many values as the first line says, then the error of the trace.
		{"trace 0 2\nvalue 5\n", 2, api.ErrShape}, {"trace 0 0\nvalue 5\n", 2, api.ErrShape}, {"trace 0 1\n", 1, api.ErrShape},
		{"trace 0 1\nhole\nhole\n", 3, api.ErrShape}, {"trace 0 3\nhole\nvalue 1\n", 3, api.ErrShape}, {"trace 0 -1\n", 1, api.ErrShape},
		{"trace 0 9999999999\n", 1, api.ErrShape}, {"trace -1 2\nvalue 9999999999\n", 2, api.ErrShape},
		{"trace -1 0\n", 1, api.ErrRange}, {"trace 100000001 0\n", 1, api.ErrRange}, {"trace 9999999999 0\n", 1, api.ErrRange}, {"trace -9999999999 0\n", 1, api.ErrRange},
		{"trace 100000000 1\nvalue 0\n", 2, api.ErrLarge}, {"trace 99999999 2\nhole\nhole\n", 3, api.ErrLarge},
		{"trace 0 1\nvalue 1073741825\n", 2, api.ErrRange}, {"trace 0 1\nvalue -1073741825\n", 2, api.ErrRange}, {"trace 0 2\nhole\nvalue 9999999999\n", 3, api.ErrRange},
		{"trace -1 4097\n" + strings.Repeat("value 9999999999\n", 4097), 4098, api.ErrRange},
		{"trace 100000000 4097\n" + strings.Repeat("value 9999999999\n", 4097), 4098, api.ErrMany},
		{"trace 0 4097\n" + strings.Repeat("hole\n", 4097), 4098, api.ErrMany},
		{"trace 0 4096\n" + strings.Repeat("hole\n", 4097), 4098, api.ErrShape},
		{"trace 100000000 4096\n" + strings.Repeat("value 9999999999\n", 4096), 4097, api.ErrLarge},
	} {
		got, line, e := chord.Parse(x.s)
		want(t, fmt.Sprintf("Parse of %.40q", x.s), list(i, got, line, e), list(i, chord.Trace{}, x.line, x.e))
	}
}

func TestParseOfOtherTraces(t *testing.T) {
	for i, x := range []struct {
		s string
		t chord.Trace
	}{
		{"trace 0 0\n", chord.Trace{}},
		{"trace 100000000 0\n", made(api.MaxPlace)},
		{"trace 0 2\nhole\nhole\n", trace(0, []int{0, 0}, span(0, 2))},
		{"trace 0 3\nhole\nvalue 0\nhole\n", trace(0, []int{0, 0, 0}, span(0, 1), span(2, 3))},
		{"trace 5 3\nvalue -1073741824\nvalue 1073741824\nvalue -1\n", made(5, -1<<30, 1<<30, -1)},
	} {
		got, line, e := chord.Parse(x.s)
		want(t, "Parse", list(i, got, line, e), list(i, x.t, 0, api.OK))
	}
}

func TestParseOfLongTexts(t *testing.T) {
	for i, x := range []struct {
		s    string
		line int
		e    api.Errno
	}{
		{strings.Repeat("x", 1000000), 0, api.ErrSyntax},
		{strings.Repeat("x", 1000001), 0, api.ErrLong},
		{shownText + strings.Repeat("x", 1000000-len(shownText)), 7, api.ErrSyntax},
		{shownText + strings.Repeat("x", 1000001-len(shownText)), 0, api.ErrLong},
		{"trace 0 199998\n" + strings.Repeat("hole\n", 199997), 199998, api.ErrShape},
		{"trace 0 199997\n" + strings.Repeat("hole\n", 199997), 199998, api.ErrMany},
		{"trace 0 199998\n" + strings.Repeat("hole\n", 199998), 0, api.ErrLong},
		{strings.Repeat("\n", 1000001), 0, api.ErrLong},
	} {
		got, line, e := chord.Parse(x.s)
		want(t, "Parse of a long text", list(i, got, line, e), list(i, chord.Trace{}, x.line, x.e))
	}
}
