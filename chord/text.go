package chord

import (
	"strconv"
	"strings"

	"versine/api"
	"versine/base"
)

// The first words of lines.
const (
	traceWord = "trace"
	valueWord = "value"
	holeWord  = "hole"
)

// maxDigits is how many digits an integer of a text may have.
const maxDigits = 10

// Print returns the text of a trace.
func Print(t Trace) (string, api.Errno) {
	if e := CheckTrace(t); e != api.OK {
		return "", e
	}
	var s strings.Builder
	s.WriteString(base.Line(traceWord, strconv.Itoa(t.First), strconv.Itoa(len(t.Values))))
	r := rowOf(t)
	for p := range r.places() {
		value, isKnown := r.at(p)
		if !isKnown {
			s.WriteString(base.Line(holeWord))
			continue
		}
		s.WriteString(base.Line(valueWord, strconv.Itoa(value)))
	}
	return s.String(), api.OK
}

// reader reads the next word of a line.
type reader func() (string, bool)

// integer reads an integer, and reports whether there is one.
func (next reader) integer() (int, bool) {
	word, _ := next()
	return base.Integer(word, maxDigits)
}

// isAtEnd reports whether there is no further word.
func (next reader) isAtEnd() bool {
	_, more := next()
	return !more
}

// text is what the lines of a text say: values, which may have errors, and how many
// there should be.
type text struct {
	row
	count int
}

func (t *text) add(value int, isKnown bool) {
	t.Values = append(t.Values, value)
	t.known = append(t.known, isKnown)
}

// lineForm is how the words behind the first one of a line are read into a
// text, and whether they have the form of such a line.
type lineForm struct {
	read func(t *text, next reader) bool
}

// lineForms returns the forms of lines by their first words.
func lineForms() map[string]lineForm {
	return map[string]lineForm{
		traceWord: {readTrace},
		valueWord: {readValue},
		holeWord:  {readHole},
	}
}

func readTrace(t *text, next reader) bool {
	first, isInteger := next.integer()
	count, isOtherInteger := next.integer()
	t.First, t.count = first, count
	return isInteger && isOtherInteger && next.isAtEnd()
}

func readValue(t *text, next reader) bool {
	value, isInteger := next.integer()
	t.add(value, true)
	return isInteger && next.isAtEnd()
}

func readHole(t *text, next reader) bool {
	t.add(0, false)
	return next.isAtEnd()
}

// readText returns what lines say, and the index of the first one with an error,
// or their number if there is none.
func readText(lines []string) (text, int) {
	var t text
	forms := lineForms()
	for i, line := range lines {
		line, isEnded := strings.CutSuffix(line, "\n")
		words := base.WordsOf(line)
		first, _ := words.Next()
		form, isKnown := forms[first]
		isInPlace := (i == 0) == (first == traceWord)
		if !isEnded || !isKnown || !isInPlace || !form.read(&t, words.Next) {
			return text{}, i
		}
	}
	return t, len(lines)
}

// check returns the first error of a text and of its trace, or OK.
func (t text) check() api.Errno {
	return base.FirstError(base.ErrorIf(len(t.Values) != t.count, api.ErrShape), CheckTrace(t.trace()))
}

// Parse returns the trace of a text, and the index of the first line that is wrong.
func Parse(s string) (Trace, int, api.Errno) {
	if s == "" {
		return Trace{}, 0, api.ErrSyntax
	}
	t, line, e := base.ParseText(s, api.MaxLog, readText, text.check)
	return t.trace(), line, e
}
