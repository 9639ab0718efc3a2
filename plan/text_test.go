package plan_test

import (
	"fmt"
	"strings"
	"testing"

	"versine/api"
	"versine/plan"
)

// shownText is the text of example 7.
const shownText = "section a 10 4 5 30\nsection b 10 3 5 20\nsection c 4 5 0 25\nshift 3 5 6 2\nshift 8 6 8 1\n"

// textOf writes the text of an office.
func textOf(o plan.Office) string {
	text := ""
	for _, s := range o.Sections {
		text += fmt.Sprintf("section %s %d %d %d %d\n", s.Name, s.Deadline, s.Work, s.Ballast, s.Value)
	}
	for _, s := range o.Shifts {
		text += fmt.Sprintf("shift %d %d %d %d\n", s.Day, s.Hours, s.Ballast, s.Rate)
	}
	return text
}

// longest returns the office with the longest text.
func longest() plan.Office {
	var o plan.Office
	for i := range 7 {
		o.Sections = append(o.Sections, section(nameOf(i)+strings.Repeat("a", 21), 100000, 1000, 10000, 1000000))
	}
	o.Shifts = constant(shift(100000, 1000, 10000, 1000), 5)
	return o
}

// TestText checks example 7, and that texts come back.
func TestText(t *testing.T) {
	for i, x := range []struct {
		o    plan.Office
		text string
	}{
		{shown(), shownText},
		{plan.Office{}, ""},
		{plan.Office{Sections: manySections(1)}, "section n00 0 1 0 0\n"},
		{plan.Office{Shifts: manyShifts(2)}, "shift 0 0 0 0\nshift 10 1 2 3\n"},
		{plan.Office{Sections: []plan.Section{section("section", 0, 1, 0, 0), section("shift", 100000, 1000, 10000, 1000000)}}, "section section 0 1 0 0\nsection shift 100000 1000 10000 1000000\n"},
		{plan.Office{Sections: manySections(7), Shifts: manyShifts(5)}, textOf(plan.Office{Sections: manySections(7), Shifts: manyShifts(5)})},
		{longest(), textOf(longest())},
	} {
		s, e := plan.Print(x.o)
		want(t, "Print", list(i, s, e), list(i, x.text, api.OK))
		back, line, e := plan.Parse(x.text)
		want(t, "Parse", list(i, back, line, e), list(i, x.o, 0, api.OK))
	}
}

// wrongLines returns lines that have the form of no line.
func wrongLines() []string {
	l := []string{
		"\n", " ", " \n", "x", "x\n", "\xff\n", "\x00\n", "\r\n", "post 1\n",
		"section", "section\n", "section \n", "section a\n", "section a 1 2 3\n", "section a 1 2 3 \n", "section a 1 2 3 4", "section a 1 2 3 4 \n", "section a 1 2 3 4 5\n", "section a 1 2 3 4\r\n",
		"section  1 2 3 4\n", "section  a 1 2 3 4\n", "section a  1 2 3 4\n", "section a 1 2  3 4\n", " section a 1 2 3 4\n", "Section a 1 2 3 4\n", "sections a 1 2 3 4\n", "sectio a 1 2 3 4\n", "a 1 2 3 4\n", "section\ta 1 2 3 4\n", "section a b 1 2 3 4\n", "section a 1 2 3 4\x00\n",
		"shift", "shift\n", "shift \n", "shift 1 2 3\n", "shift 1 2 3 \n", "shift 1 2 3 4", "shift 1 2 3 4 \n", "shift 1 2 3 4 5\n", "shift 1 2 3 4\r\n", "shift  1 2 3 4\n", "shift 1  2 3 4\n", " shift 1 2 3 4\n", "Shift 1 2 3 4\n", "shifts 1 2 3 4\n", "shif 1 2 3 4\n", "1 2 3 4\n", "shift\t1 2 3 4\n", "shift a 1 2 3 4\n",
	}
	for _, n := range []string{"", "x", "-1", "-0", "+1", "01", "00", "1.0", "0x1", "1_0", "\u0663", "-", "1000000000", "0000000001", "99999999999999999999", "1\t"} {
		for at := range 4 {
			numbers := []string{"1", "2", "3", "4"}
			numbers[at] = n
			words := strings.Join(numbers, " ") + "\n"
			l = append(l, "section a "+words, "shift "+words)
		}
	}
	return l
}

// TestParseOfWrongLines checks lines that have not their form, as the first and the last line of texts.
func TestParseOfWrongLines(t *testing.T) {
	for i, s := range wrongLines() {
		o, line, e := plan.Parse(s)
		want(t, "Parse of a wrong line", list(i, s, o, line, e), list(i, s, plan.Office{}, 0, api.ErrSyntax))
		if strings.HasSuffix(s, "\n") {
			o, line, e = plan.Parse(s + "x\n")
			want(t, "Parse of wrong lines", list(i, s, o, line, e), list(i, s, plan.Office{}, 0, api.ErrSyntax))
			// The first line with an error decides, also before errors of the office.
			o, line, e = plan.Parse("section 9 1 0 2 3\n" + s + "y\nshift 100001 1 1 1\n")
			want(t, "Parse of wrong lines", list(i, s, o, line, e), list(i, s, plan.Office{}, 1, api.ErrSyntax))
		}
		o, line, e = plan.Parse("section 9 1 0 2 3\n" + s)
		want(t, "Parse of a wrong line behind a section", list(i, s, o, line, e), list(i, s, plan.Office{}, 1, api.ErrSyntax))
	}
	for i, s := range append(wrongLines(), "section d 1 2 3 4\n", "section a 1 2 3 4\n", "section 9 1 0 2 3\n") {
		o, line, e := plan.Parse(shownText + s)
		want(t, "Parse of a wrong last line", list(i, s, o, line, e), list(i, s, plan.Office{}, 5, api.ErrSyntax))
	}
	o, line, e := plan.Parse(shownText[:len(shownText)-1])
	want(t, "Parse of a line without its end", list(o, line, e), list(plan.Office{}, 4, api.ErrSyntax))
}

// TestParseOfSectionsBehindShifts checks that none may stand there, also if the office has an error.
func TestParseOfSectionsBehindShifts(t *testing.T) {
	for i, x := range []struct {
		s    string
		line int
	}{
		{"shift 1 2 3 4\nsection a 1 2 3 4\n", 1},
		{"section b 1 2 3 4\nshift 1 2 3 4\nsection a 1 2 3 4\n", 2},
		{"shift 1 2 3 4\nshift 1 2 3 4\nsection a 1 2 3 4\nshift 1 2 3 4\n", 2},
		{"section 9 1 2 3 4\nshift 100001 2 3 4\nsection a 1 2 3 4\n", 2},
		{"shift 1 2 3 4\nsection a 1 2 3 4\nx\n", 1},
		{"shift 1 2 3 4\nx\nsection a 1 2 3 4\n", 1},
	} {
		o, line, e := plan.Parse(x.s)
		want(t, "Parse of a section behind a shift", list(i, o, line, e), list(i, plan.Office{}, x.line, api.ErrSyntax))
	}
}

// TestParseOfBadOffices checks texts of offices that have an error.
func TestParseOfBadOffices(t *testing.T) {
	for i, x := range []struct {
		s    string
		line int
		e    api.Errno
	}{
		{textOf(plan.Office{Sections: manySections(8)}), 8, api.ErrMany},
		{textOf(plan.Office{Shifts: manyShifts(6)}), 6, api.ErrMany},
		{textOf(plan.Office{Sections: manySections(8), Shifts: manyShifts(6)}), 14, api.ErrMany},
		{"section 9 1 2 3 4\n" + textOf(plan.Office{Shifts: manyShifts(6)}), 7, api.ErrMany},
		{"section 9 1 2 3 4\n", 1, api.ErrName},
		{"section \xff 1 2 3 4\n", 1, api.ErrName},
		{"section a\tb 1 2 3 4\n", 1, api.ErrName},
		{"section " + strings.Repeat("a", 25) + " 1 2 3 4\n", 1, api.ErrName},
		{"section a 1 2 3 4\nsection 9 1 0 3 4\nshift 100001 1 1 1\n", 3, api.ErrName},
		{"section a 1 2 3 4\nsection a 1 0 3 4\nshift 100001 1 1 1\n", 3, api.ErrTwice},
		{"section a 100001 2 3 4\n", 1, api.ErrRange},
		{"section a 1 0 3 4\n", 1, api.ErrRange},
		{"section a 1 1001 3 4\n", 1, api.ErrRange},
		{"section a 1 2 10001 4\n", 1, api.ErrRange},
		{"section a 1 2 3 1000001\n", 1, api.ErrRange},
		{"section a 999999999 2 3 4\n", 1, api.ErrRange},
		{"section a 1 2 3 4\nshift 100001 2 3 4\n", 2, api.ErrRange},
		{"shift 1 1001 3 4\n", 1, api.ErrRange},
		{"shift 1 2 10001 4\n", 1, api.ErrRange},
		{"shift 1 2 3 1001\n", 1, api.ErrRange},
		{"shift 1 2 3 4\nshift 0 2 3 4\n", 2, api.ErrOrder},
		{"shift 1 2 3 4\nshift 0 2 3 1001\n", 2, api.ErrRange},
		{"shift 5 2 3 4\nshift 5 2 3 4\nshift 4 2 3 4\nshift 9 2 3 4\n", 4, api.ErrOrder},
	} {
		o, line, e := plan.Parse(x.s)
		want(t, fmt.Sprintf("Parse of %.60q", x.s), list(i, o, line, e), list(i, plan.Office{}, x.line, x.e))
	}
}

// TestParseOfLongTexts checks texts of as many bytes as there may be, and of more.
func TestParseOfLongTexts(t *testing.T) {
	text := func(n int) string { return "section " + strings.Repeat("a", n-17) + " 1 2 3 4\n" } // n bytes
	for i, x := range []struct {
		s    string
		line int
		e    api.Errno
	}{
		{text(4096), 1, api.ErrName},
		{text(4097), 0, api.ErrLong},
		{text(4097)[:4096], 0, api.ErrSyntax},
		{strings.Repeat("x", 4096), 0, api.ErrSyntax},
		{strings.Repeat("x", 4097), 0, api.ErrLong},
		{strings.Repeat("\n", 4096), 0, api.ErrSyntax},
		{strings.Repeat("\n", 4097), 0, api.ErrLong},
		{shownText + strings.Repeat("\n", 5000), 0, api.ErrLong},
		{strings.Repeat("shift 1 2 3 4\n", 292), 292, api.ErrMany}, // 4088 bytes
	} {
		o, line, e := plan.Parse(x.s)
		want(t, fmt.Sprintf("Parse of %v bytes", len(x.s)), list(i, o, line, e), list(i, plan.Office{}, x.line, x.e))
	}
}
