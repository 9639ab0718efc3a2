package quality

import (
	"slices"
	"strconv"
	"strings"

	"versine/api"
	"versine/base"
)

// The first words of lines.
const (
	sectionWord  = "section"
	measuredWord = "measured"
	actWord      = "act"
)

// Print returns the text of a section.
func Print(s Section) (string, api.Errno) {
	if e := CheckSection(s); e != api.OK {
		return "", e
	}
	var text strings.Builder
	text.WriteString(base.Line(sectionWord, s.Name))
	for _, m := range s.Measured {
		text.WriteString(base.Line(measuredWord, strconv.Itoa(m.Day), strconv.Itoa(m.Index)))
	}
	for _, a := range s.Acts {
		text.WriteString(base.Line(actWord, strconv.Itoa(a.Day), a.Kind))
	}
	return text.String(), api.OK
}

// lineForm is how a line is read into a section, and whether it has the form and may stand
// where it does.
type lineForm struct {
	read func(s *Section, line string) bool
}

// lineForms returns the form of the first line, then those of all others.
func lineForms() [3]lineForm {
	return [3]lineForm{{readName}, {readMeasured}, {readAct}}
}

func readName(s *Section, line string) bool {
	return base.ReadLine(line, base.WordField(sectionWord), base.TextField(&s.Name))
}

func readMeasured(s *Section, line string) bool {
	var m Measurement
	if len(s.Acts) > 0 || !base.ReadLine(line, base.WordField(measuredWord), base.NumberField(&m.Day), base.NumberField(&m.Index)) {
		return false
	}
	s.Measured = append(s.Measured, m)
	return true
}

func readAct(s *Section, line string) bool {
	var a Act
	if !base.ReadLine(line, base.WordField(actWord), base.NumberField(&a.Day), base.TextField(&a.Kind)) {
		return false
	}
	s.Acts = append(s.Acts, a)
	return true
}

// readText returns what lines say, and the index of the first one with an error, or
// their number if there is none.
func readText(lines []string) (Section, int) {
	var s Section
	forms := lineForms()
	permitted := forms[:1]
	for i, line := range lines {
		if !slices.ContainsFunc(permitted, func(f lineForm) bool { return f.read(&s, line) }) {
			return Section{}, i
		}
		permitted = forms[1:]
	}
	return s, len(lines)
}

// Parse returns the section with a text, or the index of the first line that is wrong.
func Parse(s string) (Section, int, api.Errno) {
	if s == "" {
		return Section{}, 0, api.ErrSyntax
	}
	return base.ParseText(s, api.MaxText, readText, CheckSection)
}
