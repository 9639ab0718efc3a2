package sample

import (
	"slices"
	"strconv"
	"strings"

	"versine/api"
)

// The first words of lines.
const (
	runWord     = "run"
	samplesWord = "samples"
	holeWord    = "hole"
)

// maxDigits is how many digits an integer of a text may have.
const maxDigits = 9

// Print returns the text of a run.
func Print(r Run) (string, api.Errno) {
	if e := CheckRun(r); e != api.OK {
		return "", e
	}
	var s strings.Builder
	s.WriteString(lineOf(runWord, r.Name, strconv.Itoa(r.First)))
	end := 0
	for _, h := range r.Holes {
		s.WriteString(samplesLine(r.Samples[end:h.From]))
		s.WriteString(lineOf(holeWord, strconv.Itoa(h.To-h.From)))
		end = h.To
	}
	s.WriteString(samplesLine(r.Samples[end:]))
	return s.String(), api.OK
}

// lineOf returns the line with these words.
func lineOf(words ...string) string { return strings.Join(words, " ") + "\n" }

// samplesLine returns the line of known samples; there is none of no samples.
func samplesLine(l []float32) string {
	if len(l) == 0 {
		return ""
	}
	integers := mapped(l, func(x float32) string { return strconv.Itoa(integerOf(x)) })
	return lineOf(samplesWord, strings.Join(integers, " "))
}

// words is what is left to be read of a line.
type words struct {
	rest string
	over bool
}

// next reads a word, which is empty where a space is too many, and reports
// whether there was one.
func (w *words) next() (string, bool) {
	if w.over {
		return "", false
	}
	word, rest, more := strings.Cut(w.rest, " ")
	w.rest, w.over = rest, !more
	return word, true
}

// reader reads the next word of a line.
type reader func() (string, bool)

// row is known samples, or a hole of so many.
type row struct {
	integers []int
	hole     int
}

// text is what the lines of a text say, before its limits are checked.
type text struct {
	name  string
	first int
	rows  []row
}

// lineForm is how the words behind the first one of a line are read into a
// text, and whether they have the form of such a line.
type lineForm struct {
	read func(t *text, next reader) bool
}

// lineForms returns the forms of lines by their first words.
func lineForms() map[string]lineForm {
	return map[string]lineForm{
		runWord:     {readRun},
		samplesWord: {readSamples},
		holeWord:    {readHole},
	}
}

func readRun(t *text, next reader) bool {
	name, _ := next()
	first, isInteger := readInteger(next)
	_, more := next()
	t.name, t.first = name, first
	return name != "" && isInteger && first >= 0 && !more
}

func readSamples(t *text, next reader) bool {
	var integers []int
	for {
		word, more := next()
		if !more {
			break
		}
		n, is := integerIn(word)
		if !is {
			return false
		}
		integers = append(integers, n)
	}
	t.rows = append(t.rows, row{integers: integers})
	return len(integers) > 0
}

func readHole(t *text, next reader) bool {
	n, isInteger := readInteger(next)
	_, more := next()
	t.rows = append(t.rows, row{hole: n})
	return isInteger && n >= 1 && !more
}

// readInteger reads a word, and reports whether it is an integer.
func readInteger(next reader) (int, bool) {
	word, _ := next()
	return integerIn(word)
}

// integerIn returns the integer that a word is, and whether it is one.
func integerIn(word string) (int, bool) {
	digits, isNegative := strings.CutPrefix(word, "-")
	if digits == "" || len(digits) > maxDigits {
		return 0, false
	}
	for _, c := range digits {
		if !isDigit(c) {
			return 0, false
		}
	}
	if digits[0] == '0' && (len(digits) > 1 || isNegative) {
		return 0, false
	}
	n, err := strconv.Atoi(word)
	return n, err == nil
}

// readText returns what lines say, and the index of the first one with an error,
// or their number if there is none.
func readText(lines []string) (text, int) {
	var t text
	forms := lineForms()
	before := ""
	for i, line := range lines {
		line, isEnded := strings.CutSuffix(line, "\n")
		w := words{rest: line}
		first, _ := w.next()
		form, isKnown := forms[first]
		isInPlace := (i == 0) == (first == runWord) && first != before
		if !isEnded || !isKnown || !isInPlace || !form.read(&t, w.next) {
			return text{}, i
		}
		before = first
	}
	return t, len(lines)
}

// check returns the first error of the number and the integers of samples, or OK.
func (t text) check() api.Errno {
	samples, isLarge := 0, false
	for _, l := range t.rows {
		samples += l.hole + len(l.integers)
		isLarge = isLarge || slices.ContainsFunc(l.integers, func(n int) bool {
			return n < -maxInteger || n > maxInteger
		})
	}
	return firstError(errorIf(samples > api.MaxSamples, api.ErrMany), errorIf(isLarge, api.ErrLarge))
}

// run returns the run of a text without an error of check.
func (t text) run() Run {
	var cells []cell
	for _, l := range t.rows {
		cells = append(cells, mapped(l.integers, func(n int) cell { return cell{n, true} })...)
		cells = append(cells, make([]cell, l.hole)...)
	}
	return runOf(t.name, t.first, cells)
}

// Parse returns the run of a text, and the index of the first line that is wrong.
func Parse(s string) (Run, int, api.Errno) {
	if len(s) > api.MaxLog {
		return Run{}, 0, api.ErrLong
	}
	lines := slices.Collect(strings.Lines(s))
	t, right := readText(lines)
	if len(lines) == 0 || right < len(lines) {
		return Run{}, right, api.ErrSyntax
	}
	if e := t.check(); e != api.OK {
		return Run{}, len(lines), e
	}
	r := t.run()
	if e := CheckRun(r); e != api.OK {
		return Run{}, len(lines), e
	}
	return r, 0, api.OK
}
