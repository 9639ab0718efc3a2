package fault

import (
	"strconv"
	"strings"

	"versine/api"
	"versine/base"
)

// The first words of lines.
const (
	postWord        = "post"
	restrictionWord = "restriction"
)

// Print returns the text of a post.
func Print(p Post) (string, api.Errno) {
	if e := CheckPost(p); e != api.OK {
		return "", e
	}
	var s strings.Builder
	s.WriteString(base.Line(postWord, strconv.Itoa(p.Heard)))
	for _, r := range p.Force {
		s.WriteString(base.Line(restrictionWord, r.Name, strconv.Itoa(r.Span.From), strconv.Itoa(r.Span.To), strconv.Itoa(r.Speed)))
	}
	return s.String(), api.OK
}

// form returns the form of the first line, by which its words are read into the post.
func (p *Post) form() [2]base.Field {
	return [2]base.Field{base.WordField(postWord), base.NumberField(&p.Heard)}
}

// form returns the form of a line, by which its words are read into the restriction.
func (r *Restriction) form() [5]base.Field {
	return [5]base.Field{
		base.WordField(restrictionWord),
		base.TextField(&r.Name),
		base.NumberField(&r.Span.From),
		base.NumberField(&r.Span.To),
		base.NumberField(&r.Speed),
	}
}

// read reads the next line of a text, and reports whether it has its form.
func (p *Post) read(line string) bool {
	form := p.form()
	return base.ReadLine(line, form[:]...)
}

// readNext reads a line behind the first one, and reports whether it has its form.
func (p *Post) readNext(line string) bool {
	var r Restriction
	form := r.form()
	isRight := base.ReadLine(line, form[:]...)
	p.Force = append(p.Force, r)
	return isRight
}

// readText returns what lines say, and the index of the first one with an error, or
// their number if there is none.
func readText(lines []string) (Post, int) {
	var p Post
	read := p.read
	for i, line := range lines {
		if !read(line) {
			return Post{}, i
		}
		read = p.readNext
	}
	return p, len(lines)
}

// Parse returns the post of a text, and the index of the first line that is wrong.
func Parse(s string) (Post, int, api.Errno) {
	if s == "" {
		return Post{}, 0, api.ErrSyntax
	}
	return base.ParseText(s, api.MaxText, readText, CheckPost)
}
