package fault_test

import (
	"fmt"
	"strings"
	"testing"

	"versine/api"
	"versine/fault"
)

// shownText is the text of example 8.
const shownText = "post 3\nrestriction b 15 30 40\n"

// textOf writes the text of a post.
func textOf(p fault.Post) string {
	s := fmt.Sprintf("post %d\n", p.Heard)
	for _, r := range p.Force {
		s += fmt.Sprintf("restriction %s %d %d %d\n", r.Name, r.Span.From, r.Span.To, r.Speed)
	}
	return s
}

// longest returns the post with the longest text.
func longest() fault.Post {
	p := post(64)
	for i := range 64 {
		name := strings.Repeat("a", 22) + string(rune('0'+i/10)) + string(rune('0'+i%10))
		p.Force = append(p.Force, restriction(name, 10000000, api.MaxPlace, 500))
	}
	return p
}

// TestText checks example 8, and that texts come back.
func TestText(t *testing.T) {
	for i, x := range []struct {
		p fault.Post
		s string
	}{
		{post(3, b()), shownText},
		{post(0), "post 0\n"},
		{post(64), "post 64\n"},
		{post(2, a(), b()), "post 2\nrestriction a 10 20 80\nrestriction b 15 30 40\n"},
		{post(2, b(), a()), "post 2\nrestriction b 15 30 40\nrestriction a 10 20 80\n"},
		{post(1, restriction("Z_9", 0, api.MaxPlace, 0)), "post 1\nrestriction Z_9 0 100000000 0\n"},
		{post(1, restriction("post", 1, 2, 3)), "post 1\nrestriction post 1 2 3\n"},
		{post(1, manyRestrictions(64)...), textOf(post(1, manyRestrictions(64)...))},
		{longest(), textOf(longest())},
	} {
		s, e := fault.Print(x.p)
		want(t, "Print", list(i, s, e), list(i, x.s, api.OK))
		p, line, e := fault.Parse(x.s)
		want(t, "Parse", list(i, p, line, e), list(i, x.p, 0, api.OK))
	}
}

// wrongLines returns lines that have the form of no line.
func wrongLines() []string {
	return []string{
		"\n", " ", " \n", "x", "x\n", "\xff\n", "\x00\n", "\r\n", "run r 1\n",
		"post", "post\n", "post \n", "post 1", "post 1 \n", "post 1 2\n", "post  1\n", " post 1\n", "Post 1\n", "posts 1\n", "pos 1\n", "1\n", "post\t1\n", "post 1\r\n", "post 1\t\n",
		"post x\n", "post -1\n", "post -0\n", "post +1\n", "post 00\n", "post 01\n", "post 1.0\n", "post 0x2\n", "post 1_0\n", "post \u0663\n", "post -\n", "post 1000000000\n", "post 0000000001\n", "post 99999999999999999999\n",
		"restriction", "restriction\n", "restriction b\n", "restriction b 15\n", "restriction b 15 30\n", "restriction b 15 30 \n", "restriction b 15 30 40", "restriction b 15 30 40 \n", "restriction b 15 30 40 50\n",
		"restriction  15 30 40\n", "restriction  b 15 30 40\n", "restriction b  15 30 40\n", "restriction b 15  30 40\n", "restriction b 15 30  40\n", " restriction b 15 30 40\n", "Restriction b 15 30 40\n", "restrictions b 15 30 40\n", "b 15 30 40\n",
		"restriction\tb 15 30 40\n", "restriction b\t15 30 40\n", "restriction b 15 30 40\r\n",
		"restriction b x 30 40\n", "restriction b 15 x 40\n", "restriction b 15 30 x\n", "restriction b -15 30 40\n", "restriction b 15 -30 40\n", "restriction b 15 30 -40\n", "restriction b -0 30 40\n",
		"restriction b 015 30 40\n", "restriction b 15 030 40\n", "restriction b 15 30 040\n", "restriction b 00 30 40\n", "restriction b +1 30 40\n", "restriction b 1.5 30 40\n",
		"restriction b 1000000000 30 40\n", "restriction b 15 1000000000 40\n", "restriction b 15 30 1000000000\n", "restriction b 15 30 \u0663\n", "restriction 15 30 40\n",
	}
}

// TestParseOfWrongLines checks lines that have not their form, as the first and the last line of texts, and such that have the form of another line.
func TestParseOfWrongLines(t *testing.T) {
	for i, s := range append(wrongLines(), "restriction b 15 30 40\n") {
		p, line, e := fault.Parse(s)
		want(t, "Parse of a wrong line", list(i, s, p, line, e), list(i, s, fault.Post{}, 0, api.ErrSyntax))
		if strings.HasSuffix(s, "\n") {
			p, line, e = fault.Parse(s + "x\n")
			want(t, "Parse of wrong lines", list(i, s, p, line, e), list(i, s, fault.Post{}, 0, api.ErrSyntax))
		}
	}
	for i, s := range append(wrongLines(), "post 1\n", "post 3\n") {
		p, line, e := fault.Parse(shownText + s)
		want(t, "Parse of a wrong last line", list(i, s, p, line, e), list(i, s, fault.Post{}, 2, api.ErrSyntax))
		if !strings.HasSuffix(s, "\n") {
			continue
		}
		// The first line with an error decides, also before errors of the post.
		p, line, e = fault.Parse("post 65\n" + s + "y\nrestriction b 5 5 40\n")
		want(t, "Parse of wrong lines", list(i, s, p, line, e), list(i, s, fault.Post{}, 1, api.ErrSyntax))
	}
	p, line, e := fault.Parse("")
	want(t, "Parse of nothing", list(p, line, e), list(fault.Post{}, 0, api.ErrSyntax))
	p, line, e = fault.Parse(shownText[:len(shownText)-1])
	want(t, "Parse of a line without its end", list(p, line, e), list(fault.Post{}, 1, api.ErrSyntax))
}

// TestParseOfBadPosts checks texts of posts that have an error.
func TestParseOfBadPosts(t *testing.T) {
	for i, x := range []struct {
		s    string
		line int
		e    api.Errno
	}{
		{"post 65\n", 1, api.ErrRange},
		{"post 999999999\n", 1, api.ErrRange},
		{"post 65\nrestriction 9 5 5 501\n", 2, api.ErrRange},
		{textOf(post(0, manyRestrictions(65)...)), 66, api.ErrMany},
		{textOf(post(65, manyRestrictions(65)...)), 66, api.ErrRange},
		{"post 1\nrestriction 9 1 30 40\n", 2, api.ErrName},
		{"post 1\nrestriction \xff 1 30 40\n", 2, api.ErrName},
		{"post 1\nrestriction " + strings.Repeat("a", 25) + " 1 30 40\n", 2, api.ErrName},
		{"post 1\nrestriction b 30 30 40\n", 2, api.ErrSpan},
		{"post 1\nrestriction b 0 100000001 501\n", 2, api.ErrSpan},
		{"post 1\nrestriction b 15 30 501\n", 2, api.ErrRange},
		{"post 1\nrestriction b 15 30 999999999\nrestriction 9 1 2 3\n", 3, api.ErrRange},
		{"post 1\nrestriction b 15 30 40\nrestriction b 1 2 3\n", 3, api.ErrTwice},
		{"post 1\nrestriction b 15 30 40\nrestriction b 1 2 501\n", 3, api.ErrRange},
		{"post 1\nrestriction b 15 30 40\nrestriction b 1 2 3\nrestriction 9 1 2 3\n", 4, api.ErrTwice},
	} {
		p, line, e := fault.Parse(x.s)
		want(t, fmt.Sprintf("Parse of %.60q", x.s), list(i, p, line, e), list(i, fault.Post{}, x.line, x.e))
	}
}

// TestParseOfLongTexts checks texts of as many bytes as there may be, and of more.
func TestParseOfLongTexts(t *testing.T) {
	name := func(n int) string { return strings.Repeat("a", n) }
	for i, x := range []struct {
		s    string
		line int
		e    api.Errno
	}{
		{"post 1\nrestriction " + name(4096-26) + " 1 2 3\n", 2, api.ErrName}, // 4096 bytes
		{"post 1\nrestriction " + name(4096-25) + " 1 2 3\n", 0, api.ErrLong},
		{"post 1\nrestriction " + name(4096-25) + " 1 2 3", 1, api.ErrSyntax},
		{strings.Repeat("x", 4096), 0, api.ErrSyntax},
		{strings.Repeat("x", 4097), 0, api.ErrLong},
		{strings.Repeat("\n", 4096), 0, api.ErrSyntax},
		{strings.Repeat("\n", 4097), 0, api.ErrLong},
		{shownText + strings.Repeat("\n", 5000), 0, api.ErrLong},
	} {
		p, line, e := fault.Parse(x.s)
		want(t, fmt.Sprintf("Parse of %v bytes", len(x.s)), list(i, p, line, e), list(i, fault.Post{}, x.line, x.e))
	}
}
