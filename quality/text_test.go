package quality_test

import (
	"fmt"
	"strings"
	"testing"

	"versine/api"
	"versine/quality"
)

// shownText is the text of example 7.
const shownText = "section north\nmeasured 0 100\nmeasured 10 120\nmeasured 20 140\nmeasured 30 60\nmeasured 40 66\nmeasured 50 75\nact 25 tamping\n"

// textOf writes the text of a section.
func textOf(s quality.Section) string {
	text := fmt.Sprintf("section %s\n", s.Name)
	for _, m := range s.Measured {
		text += fmt.Sprintf("measured %d %d\n", m.Day, m.Index)
	}
	for _, a := range s.Acts {
		text += fmt.Sprintf("act %d %s\n", a.Day, a.Kind)
	}
	return text
}

// longest returns the section with the longest text.
func longest() quality.Section {
	s := section(strings.Repeat("a", 24), nil)
	for i := range 32 {
		s.Measured = append(s.Measured, measurement(api.MaxDay-40+i, 100000))
	}
	for i := range 16 {
		s.Acts = append(s.Acts, act(api.MaxDay-40+i, strings.Repeat("b", 24)))
	}
	return s
}

// TestText checks example 7, and that texts come back.
func TestText(t *testing.T) {
	for i, x := range []struct {
		s    quality.Section
		text string
	}{
		{north(), shownText},
		{section("a", nil), "section a\n"},
		{section("Z_9", measured(0, 0, 100000, 100000)), "section Z_9\nmeasured 0 0\nmeasured 100000 100000\n"},
		{section("section", nil, act(0, "act"), act(100000, "measured")), "section section\nact 0 act\nact 100000 measured\n"},
		{section("a", measured(7, 8), act(7, "b")), "section a\nmeasured 7 8\nact 7 b\n"},
		{section("a", manyMeasured(32), manyActs(16)...), textOf(section("a", manyMeasured(32), manyActs(16)...))},
		{longest(), textOf(longest())},
	} {
		s, e := quality.Print(x.s)
		want(t, "Print", list(i, s, e), list(i, x.text, api.OK))
		back, line, e := quality.Parse(x.text)
		want(t, "Parse", list(i, back, line, e), list(i, x.s, 0, api.OK))
	}
}

// wrongLines returns lines that have the form of no line.
func wrongLines() []string {
	return []string{
		"\n", " ", " \n", "x", "x\n", "\xff\n", "\x00\n", "\r\n", "post 1\n",
		"section", "section\n", "section \n", "section a", "section a \n", "section a b\n", "section  a\n", " section a\n", "Section a\n", "sections a\n", "sectio a\n", "a\n", "section\ta\n", "section a\t1 \n",
		"measured", "measured\n", "measured 1\n", "measured 1 \n", "measured 1 2", "measured 1 2 \n", "measured 1 2 3\n", "measured  1 2\n", "measured 1  2\n", " measured 1 2\n", "Measured 1 2\n", "measure 1 2\n", "1 2\n",
		"measured\t1 2\n", "measured 1\t2\n", "measured 1 2\r\n", "measured x 2\n", "measured 1 x\n", "measured -1 2\n", "measured 1 -2\n", "measured -0 2\n", "measured 1 -0\n", "measured +1 2\n", "measured 1 +2\n",
		"measured 01 2\n", "measured 1 02\n", "measured 00 2\n", "measured 1 00\n", "measured 1.0 2\n", "measured 1 0x2\n", "measured 1_0 2\n", "measured 1 \u0663\n", "measured \u0663 2\n", "measured - 2\n",
		"measured 1000000000 2\n", "measured 1 1000000000\n", "measured 0000000001 2\n", "measured 1 99999999999999999999\n",
		"act", "act\n", "act 1\n", "act 1 \n", "act 1 a", "act 1 a \n", "act 1 a b\n", "act  1 a\n", "act 1  a\n", " act 1 a\n", "Act 1 a\n", "acts 1 a\n", "1 a\n", "act a 1\n", "act\t1 a\n", "act 1\ta\n",
		"act x a\n", "act -1 a\n", "act -0 a\n", "act 01 a\n", "act 00 a\n", "act +1 a\n", "act 1.5 a\n", "act 1000000000 a\n", "act 0000000001 a\n", "act \u0663 a\n",
	}
}

// TestParseOfWrongLines checks lines that have not their form, as the first and the last line of texts, and such that have the form of another line.
func TestParseOfWrongLines(t *testing.T) {
	for i, s := range append(wrongLines(), "measured 1 2\n", "act 1 a\n") {
		x, line, e := quality.Parse(s)
		want(t, "Parse of a wrong line", list(i, s, x, line, e), list(i, s, quality.Section{}, 0, api.ErrSyntax))
		if strings.HasSuffix(s, "\n") {
			x, line, e = quality.Parse(s + "x\n")
			want(t, "Parse of wrong lines", list(i, s, x, line, e), list(i, s, quality.Section{}, 0, api.ErrSyntax))
		}
	}
	for i, s := range append(wrongLines(), "section a\n", "section north\n", "measured 60 80\n") {
		x, line, e := quality.Parse(shownText + s)
		want(t, "Parse of a wrong last line", list(i, s, x, line, e), list(i, s, quality.Section{}, 8, api.ErrSyntax))
	}
	for i, s := range append(wrongLines(), "section a\n") {
		x, line, e := quality.Parse("section 9\nmeasured 5 5\n" + s)
		want(t, "Parse of a wrong last line", list(i, s, x, line, e), list(i, s, quality.Section{}, 2, api.ErrSyntax))
		if !strings.HasSuffix(s, "\n") {
			continue
		}
		// The first line with an error decides, also before errors of the section.
		x, line, e = quality.Parse("section 9\n" + s + "y\nmeasured 5 100001\n")
		want(t, "Parse of wrong lines", list(i, s, x, line, e), list(i, s, quality.Section{}, 1, api.ErrSyntax))
	}
	x, line, e := quality.Parse("")
	want(t, "Parse of nothing", list(x, line, e), list(quality.Section{}, 0, api.ErrSyntax))
	x, line, e = quality.Parse(shownText[:len(shownText)-1])
	want(t, "Parse of a line without its end", list(x, line, e), list(quality.Section{}, 7, api.ErrSyntax))
}

// TestParseOfMeasurementsBehindInterventions checks that none may stand there, also if its own form is wrong, or the section has an error.
func TestParseOfMeasurementsBehindInterventions(t *testing.T) {
	for i, x := range []struct {
		s    string
		line int
	}{
		{"section a\nact 1 b\nmeasured 2 2\n", 2},
		{"section a\nmeasured 0 0\nact 1 b\nmeasured 2 2\n", 3},
		{"section a\nmeasured 0 0\nact 1 b\nact 2 b\nmeasured 3 3\nact 4 b\n", 4},
		{"section 9\nact 100001 b\nmeasured 2 2\n", 2},
		{"section a\nact 1 b\nmeasured 2 2\nx\n", 2},
		{"section a\nact 1 b\nx\nmeasured 2 2\n", 2},
	} {
		s, line, e := quality.Parse(x.s)
		want(t, "Parse of a measurement behind an intervention", list(i, s, line, e), list(i, quality.Section{}, x.line, api.ErrSyntax))
	}
}

// TestParseOfBadSections checks texts of sections that have an error.
func TestParseOfBadSections(t *testing.T) {
	for i, x := range []struct {
		s    string
		line int
		e    api.Errno
	}{
		{"section 9\n", 1, api.ErrName},
		{"section \xff\n", 1, api.ErrName},
		{"section a\r\n", 1, api.ErrName},
		{"section a\tb\n", 1, api.ErrName},
		{"section " + strings.Repeat("a", 25) + "\n", 1, api.ErrName},
		{"section 9\nmeasured 100001 0\nact 5 9\n", 3, api.ErrName},
		{textOf(section("a", manyMeasured(33))), 34, api.ErrMany},
		{textOf(section("a", manyMeasured(33), act(0, "9"))), 35, api.ErrMany},
		{"section a\nmeasured 100001 0\n", 2, api.ErrRange},
		{"section a\nmeasured 999999999 0\n", 2, api.ErrRange},
		{"section a\nmeasured 1 100001\n", 2, api.ErrRange},
		{"section a\nmeasured 1 1\nmeasured 1 100001\n", 3, api.ErrRange},
		{"section a\nmeasured 1 1\nmeasured 1 2\n", 3, api.ErrOrder},
		{"section a\nmeasured 1 1\nmeasured 0 2\nact 0 9\n", 4, api.ErrOrder},
		{textOf(section("a", nil, manyActs(17)...)), 18, api.ErrMany},
		{textOf(section("a", measured(5, 5, 5, 5), manyActs(17)...)), 20, api.ErrOrder},
		{"section a\nact 100001 9\n", 2, api.ErrRange},
		{"section a\nact 1 9\n", 2, api.ErrKind},
		{"section a\nact 1 a\r\n", 2, api.ErrKind},
		{"section a\nact 1 \xff\n", 2, api.ErrKind},
		{"section a\nact 1 a\nact 1 9\n", 3, api.ErrKind},
		{"section a\nact 1 a\nact 1 b\n", 3, api.ErrOrder},
		{"section a\nact 1 a\nact 0 b\nact 0 9\n", 4, api.ErrOrder},
	} {
		s, line, e := quality.Parse(x.s)
		want(t, fmt.Sprintf("Parse of %.60q", x.s), list(i, s, line, e), list(i, quality.Section{}, x.line, x.e))
	}
}

// TestParseOfLongTexts checks texts of as many bytes as there may be, and of more.
func TestParseOfLongTexts(t *testing.T) {
	name := func(n int) string { return strings.Repeat("a", n) }
	for i, x := range []struct {
		s    string
		line int
		e    api.Errno
	}{
		{"section " + name(4096-9) + "\n", 1, api.ErrName}, // 4096 bytes
		{"section " + name(4096-8) + "\n", 0, api.ErrLong},
		{"section " + name(4096-8), 0, api.ErrSyntax},
		{strings.Repeat("x", 4096), 0, api.ErrSyntax},
		{strings.Repeat("x", 4097), 0, api.ErrLong},
		{strings.Repeat("\n", 4096), 0, api.ErrSyntax},
		{strings.Repeat("\n", 4097), 0, api.ErrLong},
		{shownText + strings.Repeat("\n", 5000), 0, api.ErrLong},
		{"section a\n" + strings.Repeat("act 1 b\n", 500), 501, api.ErrMany},
	} {
		s, line, e := quality.Parse(x.s)
		want(t, fmt.Sprintf("Parse of %v bytes", len(x.s)), list(i, s, line, e), list(i, quality.Section{}, x.line, x.e))
	}
}
