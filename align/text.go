package align

import (
	"strconv"
	"strings"

	"versine/api"
	"versine/base"
)

// The first words of lines.
const (
	markWord  = "mark"
	sightWord = "sight"
)

// Print returns the text of a ride.
func Print(r Ride) (string, api.Errno) {
	if e := CheckRide(r); e != api.OK {
		return "", e
	}
	var s strings.Builder
	for _, m := range r.Marks {
		s.WriteString(base.Line(markWord, m.Kind, strconv.Itoa(m.Place)))
	}
	for _, x := range r.Sights {
		s.WriteString(base.Line(sightWord, x.Kind, strconv.Itoa(x.Count)))
	}
	return s.String(), api.OK
}

// entry is what a line says: a mark, or a sight, which may have errors.
type entry struct {
	isSight bool
	kind    string
	number  int
}

// form returns the form of a line, by which its words are read into the entry.
func (x *entry) form() [3]base.Field {
	return [3]base.Field{{Read: x.readFirst}, {Read: x.readKind}, {Read: x.readNumber}}
}

func (x *entry) readFirst(word string) bool {
	x.isSight = word == sightWord
	return x.isSight || word == markWord
}

func (x *entry) readKind(word string) bool {
	x.kind = word
	return word != ""
}

func (x *entry) readNumber(word string) bool {
	n, isNumber := base.Number(word)
	x.number = n
	return isNumber
}

// add puts what a line says behind a ride, and reports whether it may stand there.
func (x entry) add(r *Ride) bool {
	if x.isSight {
		r.Sights = append(r.Sights, Sight{x.kind, x.number})
		return true
	}
	r.Marks = append(r.Marks, Mark{x.kind, x.number})
	return len(r.Sights) == 0
}

// readText returns what lines say, and the index of the first one with an error, or
// their number if there is none.
func readText(lines []string) (Ride, int) {
	var r Ride
	for i, line := range lines {
		var x entry
		form := x.form()
		if !base.ReadLine(line, form[:]...) || !x.add(&r) {
			return Ride{}, i
		}
	}
	return r, len(lines)
}

// Parse returns the ride with a text, or the index of the first line that is wrong.
func Parse(s string) (Ride, int, api.Errno) {
	return base.ParseText(s, api.MaxText, readText, CheckRide)
}
