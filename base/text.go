package base

import (
	"slices"
	"strconv"
	"strings"

	"versine/api"
)

// MaxDigits is how many digits a number of a text may have, where its chapter
// does not say otherwise.
const MaxDigits = 9

// Line returns the line with these words.
func Line(words ...string) string { return strings.Join(words, " ") + "\n" }

// Words is what is left to be read of a line.
type Words struct {
	rest string
	over bool
}

// WordsOf returns the words of a line without its line feed.
func WordsOf(line string) *Words { return &Words{rest: line} }

// Next reads a word, which is empty where a space is too many, and reports
// whether there was one.
func (w *Words) Next() (string, bool) {
	if w.over {
		return "", false
	}
	word, rest, more := strings.Cut(w.rest, " ")
	w.rest, w.over = rest, !more
	return word, true
}

// ParseText returns what a text of at most so many bytes says, or the index of the
// first line that is wrong, or the number of lines where the error is not one of a
// line. What lines say is read first, up to the index of the first one that is wrong,
// or to their number; then it is checked.
func ParseText[T any](s string, most int, read func(lines []string) (T, int), check func(x T) api.Errno) (T, int, api.Errno) {
	var nothing T
	if len(s) > most {
		return nothing, 0, api.ErrLong
	}
	lines := slices.Collect(strings.Lines(s))
	x, right := read(lines)
	if right < len(lines) {
		return nothing, right, api.ErrSyntax
	}
	if e := check(x); e != api.OK {
		return nothing, len(lines), e
	}
	return x, 0, api.OK
}

// Field is how a word of a line is read, and whether it has the form of such a word.
type Field struct {
	Read func(word string) bool
}

// ReadLine reads the words of a line, one for each field, and reports whether it has
// these words alone, and a line feed at its end.
func ReadLine(line string, fields ...Field) bool {
	words, isRight := strings.CutSuffix(line, "\n")
	next := WordsOf(words).Next
	for _, f := range fields {
		word, isThere := next()
		if !isThere || !f.Read(word) {
			return false
		}
	}
	_, more := next()
	return isRight && !more
}

// WordField returns the field that is one word.
func WordField(word string) Field {
	return Field{func(s string) bool { return s == word }}
}

// TextField returns the field that is any word of at least one byte, which is read into
// a variable.
func TextField(to *string) Field {
	return Field{func(word string) bool {
		*to = word
		return word != ""
	}}
}

// NumberField returns the field that is a number of at most MaxDigits digits, which is
// read into a variable.
func NumberField(to *int) Field {
	return Field{func(word string) bool {
		n, isNumber := Number(word)
		*to = n
		return isNumber
	}}
}

// IntegerField returns the field that is an integer of at most MaxDigits digits, which
// is read into a variable.
func IntegerField(to *int) Field {
	return Field{func(word string) bool {
		n, isInteger := Integer(word, MaxDigits)
		*to = n
		return isInteger
	}}
}

// Number returns the number that a word of digits alone, without leading zeros,
// is, and whether it is one.
func Number(word string) (int, bool) { return numberOf(word, MaxDigits) }

// Integer returns the integer that a word of at most so many digits, without
// leading zeros, and with or without a minus sign, is, and whether it is one.
func Integer(word string, digits int) (int, bool) {
	rest, isNegative := strings.CutPrefix(word, "-")
	n, isNumber := numberOf(rest, digits)
	if !isNegative {
		return n, isNumber
	}
	return -n, isNumber && n > 0
}

func numberOf(word string, digits int) (int, bool) {
	if word == "" || len(word) > digits || word[0] == '0' && word != "0" {
		return 0, false
	}
	for _, c := range word {
		if !IsDigit(c) {
			return 0, false
		}
	}
	n, err := strconv.Atoi(word)
	return n, err == nil
}

// IsDigit reports whether a character is a decimal digit.
func IsDigit(c rune) bool { return '0' <= c && c <= '9' }
