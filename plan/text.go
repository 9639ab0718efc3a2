package plan

import (
	"strconv"
	"strings"

	"versine/api"
	"versine/base"
)

// The first words of lines.
const (
	sectionWord = "section"
	shiftWord   = "shift"
)

func (s Section) line() string {
	return base.Line(sectionWord, s.Name, strconv.Itoa(s.Deadline), strconv.Itoa(s.Work), strconv.Itoa(s.Ballast), strconv.Itoa(s.Value))
}

func (s Shift) line() string {
	return base.Line(shiftWord, strconv.Itoa(s.Day), strconv.Itoa(s.Hours), strconv.Itoa(s.Ballast), strconv.Itoa(s.Rate))
}

// Print returns the text of an office.
func Print(o Office) (string, api.Errno) {
	if e := CheckOffice(o); e != api.OK {
		return "", e
	}
	lines := append(base.Mapped(o.Sections, Section.line), base.Mapped(o.Shifts, Shift.line)...)
	return strings.Join(lines, ""), api.OK
}

// form returns the form of a line, by which its words are read into the section.
func (s *Section) form() [6]base.Field {
	return [6]base.Field{
		base.WordField(sectionWord),
		base.TextField(&s.Name),
		base.NumberField(&s.Deadline),
		base.NumberField(&s.Work),
		base.NumberField(&s.Ballast),
		base.NumberField(&s.Value),
	}
}

// form returns the form of a line, by which its words are read into the shift.
func (s *Shift) form() [5]base.Field {
	return [5]base.Field{
		base.WordField(shiftWord),
		base.NumberField(&s.Day),
		base.NumberField(&s.Hours),
		base.NumberField(&s.Ballast),
		base.NumberField(&s.Rate),
	}
}

// read reads the next line of a text into an office, and reports whether it has its form, and
// may stand there.
func (o *Office) read(line string) bool {
	var section Section
	if form := section.form(); base.ReadLine(line, form[:]...) {
		o.Sections = append(o.Sections, section)
		return len(o.Shifts) == 0
	}
	var shift Shift
	form := shift.form()
	isRight := base.ReadLine(line, form[:]...)
	o.Shifts = append(o.Shifts, shift)
	return isRight
}

// readText returns what lines say, and the index of the first one with an error, or
// their number if there is none.
func readText(lines []string) (Office, int) {
	var o Office
	for i, line := range lines {
		if !o.read(line) {
			return Office{}, i
		}
	}
	return o, len(lines)
}

// Parse returns the office of a text, and the index of the first line that is wrong.
func Parse(s string) (Office, int, api.Errno) {
	return base.ParseText(s, api.MaxText, readText, CheckOffice)
}
