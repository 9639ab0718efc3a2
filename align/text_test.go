package align_test

import (
	"fmt"
	"strings"
	"testing"

	"versine/align"
	"versine/api"
)

// textOf writes the text of a ride.
func textOf(r align.Ride) string {
	s := ""
	for _, m := range r.Marks {
		s += fmt.Sprintf("mark %s %d\n", m.Kind, m.Place)
	}
	for _, x := range r.Sights {
		s += fmt.Sprintf("sight %s %d\n", x.Kind, x.Count)
	}
	return s
}

// shownText is the text of the shown ride.
const shownText = "mark balise 100\nmark joint 250\nmark balise 400\nsight balise 95\nsight joint 240\nsight joint 300\nsight balise 392\n"

// longest returns a ride of 64 marks and sights, whose lines have as many bytes as they can.
func longest() align.Ride {
	r := many(64)
	kind := strings.Repeat("k", 24)
	for i := range 64 {
		r.Marks[i] = align.Mark{Kind: kind, Place: 99999900 + i}
		r.Sights[i] = align.Sight{Kind: kind, Count: 99999900 + i}
	}
	r.Marks[63].Place, r.Sights[63].Count = api.MaxPlace, api.MaxPlace
	return r
}

// TestText checks example 7, and that texts come back.
func TestText(t *testing.T) {
	for i, x := range []struct {
		r align.Ride
		s string
	}{
		{shown(), shownText},
		{align.Ride{}, ""},
		{ride("a 0", ""), "mark a 0\n"},
		{ride("", "a 0"), "sight a 0\n"},
		{ride("mark 1 sight 2", "mark 1 sight 100000000"), "mark mark 1\nmark sight 2\nsight mark 1\nsight sight 100000000\n"},
		{many(64), textOf(many(64))},
	} {
		s, e := align.Print(x.r)
		want(t, "Print", list(i, s, e), list(i, x.s, api.OK))
		r, line, e := align.Parse(x.s)
		want(t, "Parse", list(i, r, line, e), list(i, x.r, 0, api.OK))
	}
	// The text of the longest ride is longer than Parse takes.
	s, e := align.Print(longest())
	want(t, "Print of the longest ride", list(s, e), list(textOf(longest()), api.OK))
	r, line, e := align.Parse(s)
	want(t, "Parse of the longest ride", list(len(s) > 4096, r, line, e), list(true, align.Ride{}, 0, api.ErrLong))
}

// TestParseOfWrongLines checks lines that have not their form, as the first and the last line of texts.
func TestParseOfWrongLines(t *testing.T) {
	for i, s := range []string{
		"\n", " ", " \n", "x", "x\n", "mark", "mark\n", "mark \n", "mark a\n", "mark a \n", "mark a 1", "mark a 1 \n", "mark a 1 2\n", "mark  a 1\n", "mark a  1\n",
		" mark a 1\n", "Mark a 1\n", "marks a 1\n", "mar a 1\n", "a 1\n", "mark  1\n", "mark\ta 1\n", "mark a\t1\n", "mark a 1\r\n", "\r\n", "mark a 1\t\n",
		"sight", "sight\n", "sight a\n", "sight a \n", "sight a 1", "sight a 1 \n", "sight a 1 2\n", "sight  a 1\n", "sight a  1\n", " sight a 1\n", "Sight a 1\n", "sights a 1\n", "sigh a 1\n", "sight  1\n",
		"mark a x\n", "mark a -1\n", "mark a -0\n", "mark a +1\n", "mark a 00\n", "mark a 01\n", "mark a 1.0\n", "mark a 0x1\n", "mark a 1_0\n", "mark a \u0663\n",
		"mark a 1000000000\n", "mark a 0000000001\n", "sight a x\n", "sight a -1\n", "sight a 01\n", "sight a 1000000000\n", "sight a 99999999999999999999\n",
		"\xff\n", "\x00\n", "marksight a 1\n", "hole a 1\n",
	} {
		r, line, e := align.Parse(s)
		want(t, "Parse of a wrong line", list(i, s, r, line, e), list(i, s, align.Ride{}, 0, api.ErrSyntax))
		r, line, e = align.Parse("mark a 5\nmark b 7\n" + s)
		want(t, "Parse of a wrong last line", list(i, s, r, line, e), list(i, s, align.Ride{}, 2, api.ErrSyntax))
		r, line, e = align.Parse(shownText + s)
		want(t, "Parse of a wrong line behind sights", list(i, s, r, line, e), list(i, s, align.Ride{}, 7, api.ErrSyntax))
		if !strings.HasSuffix(s, "\n") {
			continue
		}
		// The first line with an error decides, also before errors of the ride.
		r, line, e = align.Parse("mark 9 999999999\n" + s + "y\nmark a 1\n")
		want(t, "Parse of wrong lines", list(i, s, r, line, e), list(i, s, align.Ride{}, 1, api.ErrSyntax))
	}
	for i, s := range []string{"mark a 1\n", "mark a 999999999\n", "mark 9 1\n", "mark balise 100\n"} {
		r, line, e := align.Parse("sight b 2\n" + s + "x\n")
		want(t, "Parse of a mark behind a sight", list(i, r, line, e), list(i, align.Ride{}, 1, api.ErrSyntax))
		r, line, e = align.Parse(shownText + s)
		want(t, "Parse of a mark behind all sights", list(i, r, line, e), list(i, align.Ride{}, 7, api.ErrSyntax))
	}
	r, line, e := align.Parse(shownText[:len(shownText)-1])
	want(t, "Parse of a line without its end", list(r, line, e), list(align.Ride{}, 6, api.ErrSyntax))
}

// TestParseOfBadRides checks texts of rides that have an error.
func TestParseOfBadRides(t *testing.T) {
	var marks, sights string
	for i := range 65 {
		marks += fmt.Sprintf("mark a %d\n", i)
		sights += fmt.Sprintf("sight a %d\n", i)
	}
	for i, x := range []struct {
		s    string
		line int
		e    api.Errno
	}{
		{marks, 65, api.ErrMany},
		{sights, 65, api.ErrMany},
		{"mark 9 1\n" + marks, 66, api.ErrMany},
		{"mark 9 1\n" + sights, 66, api.ErrKind},
		{"mark 9 999999999\n", 1, api.ErrKind},
		{"mark a.b 1\n", 1, api.ErrKind},
		{"mark a\tb 1\n", 1, api.ErrKind},
		{"mark \xff 1\n", 1, api.ErrKind},
		{"mark aaaaaaaaaaaaaaaaaaaaaaaaa 1\n", 1, api.ErrKind},
		{"mark a 100000001\n", 1, api.ErrRange},
		{"mark a 999999999\nsight 9 1\n", 2, api.ErrRange},
		{"mark a 5\nmark a 5\nsight 9 1\n", 3, api.ErrOrder},
		{"mark a 5\nmark a 4\n", 2, api.ErrOrder},
		{"sight 9 1\nsight a 1\n", 2, api.ErrKind},
		{"mark a 1\nsight a 100000001\n", 2, api.ErrRange},
		{"mark a 1\nsight a 5\nsight a 5\n", 3, api.ErrOrder},
		{"sight a 5\nsight a 0\n", 2, api.ErrOrder},
	} {
		r, line, e := align.Parse(x.s)
		want(t, fmt.Sprintf("Parse of %.60q", x.s), list(i, r, line, e), list(i, align.Ride{}, x.line, x.e))
	}
}

// TestParseOfLongTexts checks texts of as many bytes as there may be, and of more.
func TestParseOfLongTexts(t *testing.T) {
	r := longest()
	r.Marks, r.Sights = r.Marks[:63], r.Sights[:40] // 63 lines of 39 bytes, and 40 of 40
	s := textOf(r)
	rest := 4096 - len(s)
	whole := r
	whole.Marks = append(whole.Marks[:63:63], align.Mark{Kind: strings.Repeat("z", rest-len("mark  100000000\n")), Place: api.MaxPlace})
	got, line, e := align.Parse(textOf(whole))
	want(t, "Parse of 4096 bytes", list(len(textOf(whole)), got, line, e), list(4096, whole, 0, api.OK))
	for i, x := range []struct {
		s    string
		line int
		e    api.Errno
	}{
		{textOf(whole) + "x", 0, api.ErrLong},
		{s + strings.Repeat("x", rest), 103, api.ErrSyntax},
		{s + strings.Repeat("x", rest+1), 0, api.ErrLong},
		{strings.Repeat("x", 4096), 0, api.ErrSyntax},
		{strings.Repeat("x", 4097), 0, api.ErrLong},
		{strings.Repeat("\n", 4097), 0, api.ErrLong},
		{strings.Repeat("mark a 1\n", 455), 455, api.ErrMany},
		{strings.Repeat("mark a 1\n", 456), 0, api.ErrLong},
	} {
		got, line, e := align.Parse(x.s)
		want(t, "Parse of a long text", list(i, got, line, e), list(i, align.Ride{}, x.line, x.e))
	}
}
