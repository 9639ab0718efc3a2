package profile

import (
	"strconv"
	"strings"

	"versine/api"
	"versine/base"
)

// pointWord is the first word of each line.
const pointWord = "point"

// Print returns the text of a profile.
func Print(p Profile) (string, api.Errno) {
	if e := CheckProfile(p); e != api.OK {
		return "", e
	}
	var s strings.Builder
	for _, x := range p {
		s.WriteString(base.Line(pointWord, strconv.Itoa(x.X), strconv.Itoa(x.Y)))
	}
	return s.String(), api.OK
}

// form returns the form of a line, by which its words are read into the point.
func (x *Point) form() [3]base.Field {
	return [3]base.Field{base.WordField(pointWord), base.IntegerField(&x.X), base.IntegerField(&x.Y)}
}

// readText returns what lines say, and the index of the first one with an error, or
// their number if there is none.
func readText(lines []string) (Profile, int) {
	p := make(Profile, len(lines))
	for i, line := range lines {
		form := p[i].form()
		if !base.ReadLine(line, form[:]...) {
			return nil, i
		}
	}
	return p, len(lines)
}

// Parse returns the profile of a text, and the index of the first line that is wrong.
func Parse(s string) (Profile, int, api.Errno) {
	return base.ParseText(s, api.MaxText, readText, CheckProfile)
}
