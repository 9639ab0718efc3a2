package sample

import (
	"slices"
	"strconv"
	"strings"

	"versine/api"
	"versine/base"
)

// The first words of lines.
const (
	runWord     = "run"
	samplesWord = "samples"
	holeWord    = "hole"
)

// Print returns the text of a run.
func Print(r Run) (string, api.Errno) {
	if e := CheckRun(r); e != api.OK {
		return "", e
	}
	var s strings.Builder
	s.WriteString(base.Line(runWord, r.Name, strconv.Itoa(r.First)))
	end := 0
	for _, h := range r.Holes {
		s.WriteString(samplesLine(r.Samples[end:h.From]))
		s.WriteString(base.Line(holeWord, strconv.Itoa(h.To-h.From)))
		end = h.To
	}
	s.WriteString(samplesLine(r.Samples[end:]))
	return s.String(), api.OK
}

// samplesLine returns the line of known samples; there is none of no samples.
func samplesLine(l []float32) string {
	if len(l) == 0 {
		return ""
	}
	integers := base.Mapped(l, func(x float32) string { return strconv.Itoa(base.IntegerOf(x)) })
	return base.Line(samplesWord, strings.Join(integers, " "))
}

// reader reads the next word of a line.
type reader func() (string, bool)

// row is known samples, or a hole of so many.
type row struct {
	integers []int
	hole     int
}

// text is what the lines of a text say, before its limits are checked.
type text struct {
	name  string
	first int
	rows  []row
}

// lineForm is how the words behind the first one of a line are read into a
// text, and whether they have the form of such a line.
type lineForm struct {
	read func(t *text, next reader) bool
}

// lineForms returns the forms of lines by their first words.
func lineForms() map[string]lineForm {
	return map[string]lineForm{
		runWord:     {readRun},
		samplesWord: {readSamples},
		holeWord:    {readHole},
	}
}

func readRun(t *text, next reader) bool {
	name, _ := next()
	first, isInteger := readInteger(next)
	_, more := next()
	t.name, t.first = name, first
	return name != "" && isInteger && first >= 0 && !more
}

func readSamples(t *text, next reader) bool {
	var integers []int
	for {
		word, more := next()
		if !more {
			break
		}
		n, is := base.Integer(word, base.MaxDigits)
		if !is {
			return false
		}
		integers = append(integers, n)
	}
	t.rows = append(t.rows, row{integers: integers})
	return len(integers) > 0
}

func readHole(t *text, next reader) bool {
	n, isInteger := readInteger(next)
	_, more := next()
	t.rows = append(t.rows, row{hole: n})
	return isInteger && n >= 1 && !more
}

// readInteger reads a word, and reports whether it is an integer.
func readInteger(next reader) (int, bool) {
	word, _ := next()
	return base.Integer(word, base.MaxDigits)
}

// readText returns what lines say, and the index of the first one with an error,
// or their number if there is none.
func readText(lines []string) (text, int) {
	var t text
	forms := lineForms()
	before := ""
	for i, line := range lines {
		line, isEnded := strings.CutSuffix(line, "\n")
		words := base.WordsOf(line)
		first, _ := words.Next()
		form, isKnown := forms[first]
		isInPlace := (i == 0) == (first == runWord) && first != before
		if !isEnded || !isKnown || !isInPlace || !form.read(&t, words.Next) {
			return text{}, i
		}
		before = first
	}
	return t, len(lines)
}

// checkSamples returns the first error of the number and the integers of samples, or OK.
func (t text) checkSamples() api.Errno {
	samples, isLarge := 0, false
	for _, l := range t.rows {
		samples += l.hole + len(l.integers)
		isLarge = isLarge || slices.ContainsFunc(l.integers, func(n int) bool { return !base.IsOfSample(n) })
	}
	return base.FirstError(base.ErrorIf(samples > api.MaxSamples, api.ErrMany), base.ErrorIf(isLarge, api.ErrLarge))
}

// run returns the run of a text without an error of its samples.
func (t text) run() Run {
	var cells []cell
	for _, l := range t.rows {
		cells = append(cells, base.Mapped(l.integers, func(n int) cell { return cell{n, true} })...)
		cells = append(cells, make([]cell, l.hole)...)
	}
	return runOf(t.name, t.first, cells)
}

// check returns the first error of a text and of its run, or OK.
func (t text) check() api.Errno {
	if e := t.checkSamples(); e != api.OK {
		return e
	}
	return CheckRun(t.run())
}

// Parse returns the run of a text, and the index of the first line that is wrong.
func Parse(s string) (Run, int, api.Errno) {
	if s == "" {
		return Run{}, 0, api.ErrSyntax
	}
	t, line, e := base.ParseText(s, api.MaxLog, readText, text.check)
	return t.run(), line, e
}
