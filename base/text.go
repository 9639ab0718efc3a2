package base

import (
	"strconv"
	"strings"
)

// MaxDigits is how many digits a number of a text may have, where its chapter
// does not say otherwise.
const MaxDigits = 9

// Line returns the line with these words.
func Line(words ...string) string { return strings.Join(words, " ") + "\n" }

// Words is what is left to be read of a line.
type Words struct {
	rest string
	over bool
}

// WordsOf returns the words of a line without its line feed.
func WordsOf(line string) *Words { return &Words{rest: line} }

// Next reads a word, which is empty where a space is too many, and reports
// whether there was one.
func (w *Words) Next() (string, bool) {
	if w.over {
		return "", false
	}
	word, rest, more := strings.Cut(w.rest, " ")
	w.rest, w.over = rest, !more
	return word, true
}

// Number returns the number that a word of digits alone, without leading zeros,
// is, and whether it is one.
func Number(word string) (int, bool) { return numberOf(word, MaxDigits) }

// Integer returns the integer that a word of at most so many digits, without
// leading zeros, and with or without a minus sign, is, and whether it is one.
func Integer(word string, digits int) (int, bool) {
	rest, isNegative := strings.CutPrefix(word, "-")
	n, isNumber := numberOf(rest, digits)
	if !isNegative {
		return n, isNumber
	}
	return -n, isNumber && n > 0
}

func numberOf(word string, digits int) (int, bool) {
	if word == "" || len(word) > digits || word[0] == '0' && word != "0" {
		return 0, false
	}
	for _, c := range word {
		if !IsDigit(c) {
			return 0, false
		}
	}
	n, err := strconv.Atoi(word)
	return n, err == nil
}

// IsDigit reports whether a character is a decimal digit.
func IsDigit(c rune) bool { return '0' <= c && c <= '9' }
