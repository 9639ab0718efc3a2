package profile_test

import (
	"fmt"
	"strings"
	"testing"

	"versine/api"
	"versine/profile"
)

// nominalText is the text of N of the chapter's examples.
const nominalText = "point 0 0\npoint 10 10\npoint 30 10\npoint 40 0\n"

// textOf writes the text of a profile.
func textOf(p profile.Profile) string {
	s := ""
	for _, x := range p {
		s += fmt.Sprintf("point %d %d\n", x.X, x.Y)
	}
	return s
}

// TestText checks example 8, and that texts come back.
func TestText(t *testing.T) {
	for i, x := range []struct {
		p profile.Profile
		s string
	}{
		{nominal(), nominalText},
		{shape(-10000, 10000, 10000, -10000), "point -10000 10000\npoint 10000 -10000\n"},
		{shape(-3, 0, 1, -2), "point -3 0\npoint 1 -2\n"},
		{shape(-1, 5, 0, -5), "point -1 5\npoint 0 -5\n"},
		{long(24), textOf(long(24))},
	} {
		s, e := profile.Print(x.p)
		want(t, "Print", list(i, s, e), list(i, x.s, api.OK))
		p, line, e := profile.Parse(x.s)
		want(t, "Parse", list(i, p, line, e), list(i, x.p, 0, api.OK))
	}
}

// TestParseOfWrongLines checks lines that have not their form, as the first and the last line of texts.
func TestParseOfWrongLines(t *testing.T) {
	for i, s := range []string{
		"\n", " ", " \n", "x", "x\n", "point", "point\n", "point \n", "point 1\n", "point 1 \n", "point 1 2", "point 1 2 \n", "point 1 2 3\n", "point  1 2\n", "point 1  2\n",
		" point 1 2\n", "Point 1 2\n", "points 1 2\n", "poin 1 2\n", "1 2\n", "point\t1 2\n", "point 1\t2\n", "point 1 2\r\n", "\r\n", "point 1 2\t\n", "point  2\n",
		"point x 2\n", "point 1 x\n", "point -0 2\n", "point 1 -0\n", "point +1 2\n", "point 1 +2\n", "point 00 2\n", "point 1 00\n", "point 01 2\n", "point 1 02\n", "point -01 2\n", "point 1 -02\n",
		"point 1.0 2\n", "point 1 0x2\n", "point 1_0 2\n", "point 1 1_0\n", "point \u0663 2\n", "point 1 \u0663\n", "point - 2\n", "point 1 -\n", "point --1 2\n", "point 1 --2\n", "point 1- 2\n", "point 1 2-\n",
		"point 1000000000 2\n", "point 1 1000000000\n", "point -1000000000 2\n", "point 1 -1000000000\n", "point 0000000001 2\n", "point 1 99999999999999999999\n",
		"\xff\n", "\x00\n", "trace 1 2\n", "mark 1 2\n",
	} {
		p, line, e := profile.Parse(s)
		want(t, "Parse of a wrong line", list(i, s, p, line, e), list(i, s, profile.Profile(nil), 0, api.ErrSyntax))
		p, line, e = profile.Parse(nominalText + s)
		want(t, "Parse of a wrong last line", list(i, s, p, line, e), list(i, s, profile.Profile(nil), 4, api.ErrSyntax))
		if !strings.HasSuffix(s, "\n") {
			continue
		}
		// The first line with an error decides, also before errors of the profile.
		p, line, e = profile.Parse("point 10001 0\n" + s + "y\npoint 0 0\n")
		want(t, "Parse of wrong lines", list(i, s, p, line, e), list(i, s, profile.Profile(nil), 1, api.ErrSyntax))
	}
	p, line, e := profile.Parse(nominalText[:len(nominalText)-1])
	want(t, "Parse of a line without its end", list(p, line, e), list(profile.Profile(nil), 3, api.ErrSyntax))
}

// TestParseOfBadProfiles checks texts of profiles that have an error.
func TestParseOfBadProfiles(t *testing.T) {
	for i, x := range []struct {
		s    string
		line int
		e    api.Errno
	}{
		{"", 0, api.ErrShort},
		{"point 0 0\n", 1, api.ErrShort},
		{"point 999999999 0\n", 1, api.ErrShort},
		{textOf(long(25)), 25, api.ErrMany},
		{"point 10001 0\n" + textOf(long(24)), 25, api.ErrMany},
		{"point 10001 0\npoint 0 0\n", 2, api.ErrRange},
		{"point -10001 0\npoint 0 0\n", 2, api.ErrRange},
		{"point 0 10001\npoint 1 0\n", 2, api.ErrRange},
		{"point 0 0\npoint 1 -10001\n", 2, api.ErrRange},
		{"point 0 0\npoint 999999999 -999999999\npoint 0 0\n", 3, api.ErrRange},
		{"point 0 0\npoint 0 1\n", 2, api.ErrOrder},
		{"point 0 0\npoint -1 1\npoint 10001 0\n", 3, api.ErrOrder},
		{"point 0 0\npoint 5 1\npoint 5 2\npoint 6 2\n", 4, api.ErrOrder},
	} {
		p, line, e := profile.Parse(x.s)
		want(t, fmt.Sprintf("Parse of %.60q", x.s), list(i, p, line, e), list(i, profile.Profile(nil), x.line, x.e))
	}
}

// TestParseOfLongTexts checks texts of as many bytes as there may be, and of more.
func TestParseOfLongTexts(t *testing.T) {
	for i, x := range []struct {
		s    string
		line int
		e    api.Errno
	}{
		{strings.Repeat("point 0 0\n", 409) + "point", 409, api.ErrSyntax},
		{strings.Repeat("point 0 0\n", 409) + "point\n", 409, api.ErrSyntax},
		{strings.Repeat("point 0 0\n", 409) + "point 0", 0, api.ErrLong},
		{strings.Repeat("point 0 0\n", 408) + "point 99999 -9\n", 409, api.ErrMany},
		{strings.Repeat("point 0 0\n", 408) + "point 99999 -99\n", 409, api.ErrMany}, // 4096 bytes
		{strings.Repeat("point 0 0\n", 408) + "point 99999 -999\n", 0, api.ErrLong},
		{strings.Repeat("point 0 0\n", 410), 0, api.ErrLong},
		{strings.Repeat("x", 4096), 0, api.ErrSyntax},
		{strings.Repeat("x", 4097), 0, api.ErrLong},
		{strings.Repeat("\n", 4096), 0, api.ErrSyntax},
		{strings.Repeat("\n", 4097), 0, api.ErrLong},
	} {
		p, line, e := profile.Parse(x.s)
		want(t, fmt.Sprintf("Parse of %v bytes", len(x.s)), list(i, p, line, e), list(i, profile.Profile(nil), x.line, x.e))
	}
}
