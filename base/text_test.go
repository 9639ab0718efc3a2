package base_test

import (
	"slices"
	"testing"

	"versine/base"
)

func TestWords(t *testing.T) {
	for line, words := range map[string][]string{
		"":       {""},
		"a":      {"a"},
		"a bc d": {"a", "bc", "d"},
		"a  b":   {"a", "", "b"},
		" a ":    {"", "a", ""},
		"\ta\r":  {"\ta\r"},
	} {
		w := base.WordsOf(line)
		var got []string
		for word, is := w.Next(); is; word, is = w.Next() {
			got = append(got, word)
		}
		if !slices.Equal(got, words) {
			t.Errorf("the words of %q: got %q, want %q", line, got, words)
		}
		if word, is := w.Next(); is || word != "" {
			t.Errorf("the words of %q: got %q behind the last one", line, word)
		}
		if s := base.Line(words...); s != line+"\n" {
			t.Errorf("the line of %q: got %q, want %q", words, s, line+"\n")
		}
	}
}

func TestNumber(t *testing.T) {
	for word, n := range map[string]int{"0": 0, "7": 7, "10": 10, "999999999": 999999999} {
		if got, is := base.Number(word); got != n || !is {
			t.Errorf("Number of %q: got %v, %v", word, got, is)
		}
	}
	for _, word := range []string{"", "00", "07", "-1", "+1", "1 ", " 1", "1a", "1_0", "0x1", "1.0", "1000000000", "٣", "\xff"} {
		if got, is := base.Number(word); got != 0 || is {
			t.Errorf("Number of %q: got %v, %v", word, got, is)
		}
	}
}

func TestInteger(t *testing.T) {
	for i, x := range []struct {
		word   string
		digits int
		n      int
		is     bool
	}{
		{"0", 1, 0, true}, {"9", 1, 9, true}, {"-9", 1, -9, true}, {"-1", 9, -1, true}, {"10", 1, 0, false}, {"-10", 1, 0, false},
		{"999999999", 9, 999999999, true}, {"-999999999", 9, -999999999, true}, {"1000000000", 9, 0, false},
		{"9999999999", 10, 9999999999, true}, {"-9999999999", 10, -9999999999, true}, {"-10000000000", 10, 0, false},
		{"", 9, 0, false}, {"-", 9, 0, false}, {"-0", 9, 0, false}, {"--1", 9, 0, false}, {"+1", 9, 0, false},
		{"00", 9, 0, false}, {"-01", 9, 0, false}, {"1-", 9, 0, false}, {" 1", 9, 0, false}, {"-1x", 9, 0, false}, {"-٣", 9, 0, false},
	} {
		if n, is := base.Integer(x.word, x.digits); n != x.n || is != x.is {
			t.Errorf("Integer %v of %q: got %v, %v", i, x.word, n, is)
		}
	}
}
