package base_test

import (
	"slices"
	"strconv"
	"strings"
	"testing"

	"versine/api"
	"versine/base"
)

func TestWords(t *testing.T) {
	for line, words := range map[string][]string{
		"":       {""},
		"a":      {"a"},
		"a bc d": {"a", "bc", "d"},
		"a  b":   {"a", "", "b"},
		" a ":    {"", "a", ""},
		"\ta\r":  {"\ta\r"},
	} {
		w := base.WordsOf(line)
		var got []string
		for word, is := w.Next(); is; word, is = w.Next() {
			got = append(got, word)
		}
		if !slices.Equal(got, words) {
			t.Errorf("the words of %q: got %q, want %q", line, got, words)
		}
		if word, is := w.Next(); is || word != "" {
			t.Errorf("the words of %q: got %q behind the last one", line, word)
		}
		if s := base.Line(words...); s != line+"\n" {
			t.Errorf("the line of %q: got %q, want %q", words, s, line+"\n")
		}
	}
}

func TestNumber(t *testing.T) {
	for word, n := range map[string]int{"0": 0, "7": 7, "10": 10, "999999999": 999999999} {
		if got, is := base.Number(word); got != n || !is {
			t.Errorf("Number of %q: got %v, %v", word, got, is)
		}
	}
	for _, word := range []string{"", "00", "07", "-1", "+1", "1 ", " 1", "1a", "1_0", "0x1", "1.0", "1000000000", "٣", "\xff"} {
		if got, is := base.Number(word); got != 0 || is {
			t.Errorf("Number of %q: got %v, %v", word, got, is)
		}
	}
}

func TestInteger(t *testing.T) {
	for i, x := range []struct {
		word   string
		digits int
		n      int
		is     bool
	}{
		{"0", 1, 0, true}, {"9", 1, 9, true}, {"-9", 1, -9, true}, {"-1", 9, -1, true}, {"10", 1, 0, false}, {"-10", 1, 0, false},
		{"999999999", 9, 999999999, true}, {"-999999999", 9, -999999999, true}, {"1000000000", 9, 0, false},
		{"9999999999", 10, 9999999999, true}, {"-9999999999", 10, -9999999999, true}, {"-10000000000", 10, 0, false},
		{"", 9, 0, false}, {"-", 9, 0, false}, {"-0", 9, 0, false}, {"--1", 9, 0, false}, {"+1", 9, 0, false},
		{"00", 9, 0, false}, {"-01", 9, 0, false}, {"1-", 9, 0, false}, {" 1", 9, 0, false}, {"-1x", 9, 0, false}, {"-٣", 9, 0, false},
	} {
		if n, is := base.Integer(x.word, x.digits); n != x.n || is != x.is {
			t.Errorf("Integer %v of %q: got %v, %v", i, x.word, n, is)
		}
	}
}

func TestReadLine(t *testing.T) {
	for line, is := range map[string]bool{
		"a bc\n": true, "bc a\n": true, "a bc": false, "a bc \n": false, "a bc d\n": false, "a\n": false, "a \n": false, " a\n": false,
		"a  bc\n": false, "\n": false, "": false, "\xff a\n": true, "a bc\r\n": true,
	} {
		var got []string
		read := func(word string) bool {
			got = append(got, word)
			return word != ""
		}
		if base.ReadLine(line, base.Field{Read: read}, base.Field{Read: read}) != is {
			t.Errorf("ReadLine of %q: got %v", line, !is)
		}
		if words := strings.Split(strings.TrimSuffix(line, "\n"), " "); is && !slices.Equal(got, words) {
			t.Errorf("the words of %q: got %q", line, got)
		}
	}
	if !base.ReadLine("x\n", base.Field{Read: func(word string) bool { return word == "x" }}) {
		t.Error("ReadLine of one word: got false")
	}
	if base.ReadLine("x y\n", base.Field{Read: func(word string) bool { return true }}, base.Field{Read: func(word string) bool { return word == "x" }}) {
		t.Error("ReadLine of a word without its form: got true")
	}
	if base.ReadLine("x y\n", base.Field{Read: func(word string) bool { return false }}, base.Field{Read: func(word string) bool { return true }}) {
		t.Error("ReadLine of a first word without its form: got true")
	}
	if base.ReadLine("x\n", base.Field{Read: func(word string) bool { return true }}, base.Field{Read: func(word string) bool { return word == "" }}) {
		t.Error("ReadLine of a missing word: got true")
	}
}

// TestFieldsOfNumbersAndTexts checks the words that both fields have, and what they read.
func TestFieldsOfNumbersAndTexts(t *testing.T) {
	for line, is := range map[string]bool{
		"7 a\n": true, "0 0\n": true, "999999999 -\n": true, "10 \xff\n": true, "1000000000 a\n": false, "-7 a\n": false, "-0 a\n": false,
		"07 a\n": false, "x a\n": false, " a\n": false, "7 \n": false, "7\n": false, "7 a": false, "7 a b\n": false, "a 7\n": false,
	} {
		n, s := 5, "none"
		if base.ReadLine(line, base.NumberField(&n), base.TextField(&s)) != is {
			t.Errorf("ReadLine of %q: got %v", line, !is)
		}
		if is && line != strconv.Itoa(n)+" "+s+"\n" {
			t.Errorf("what is read of %q: got %v, %q", line, n, s)
		}
	}
}

func TestFields(t *testing.T) {
	for line, is := range map[string]bool{
		"at 7\n": true, "at -999999999\n": true, "at 0\n": true, "at 1000000000\n": false, "at -0\n": false, "at 07\n": false, "at x\n": false, "at \n": false,
		"a 7\n": false, "At 7\n": false, " 7\n": false, "7 at\n": false,
	} {
		n := 5
		if base.ReadLine(line, base.WordField("at"), base.IntegerField(&n)) != is {
			t.Errorf("ReadLine of %q: got %v", line, !is)
		}
		if is && line != "at "+strconv.Itoa(n)+"\n" {
			t.Errorf("the integer of %q: got %v", line, n)
		}
	}
}

func TestParseText(t *testing.T) {
	read := func(lines []string) (string, int) {
		k := slices.Index(lines, "wrong\n")
		if k < 0 {
			k = len(lines)
		}
		return strings.Join(lines, "|"), k
	}
	check := func(x string) api.Errno { return base.ErrorIf(strings.Contains(x, "bad"), api.ErrConflict) }
	for i, x := range []struct {
		s    string
		text string
		line int
		e    api.Errno
	}{
		{"", "", 0, api.OK},
		{"a\nb", "a\n|b", 0, api.OK},
		{"a\n\nb\n", "a\n|\n|b\n", 0, api.OK},
		{"a\nwrong\nbad\n", "", 1, api.ErrSyntax},
		{"a\nbad\nb", "", 3, api.ErrConflict},
		{"wrong\n78901234567", "", 0, api.ErrLong},
		{"bad\n5678901234567", "", 0, api.ErrLong},
		{"wrong\n7890123456", "", 0, api.ErrSyntax},
		{"bad\n567890123456", "", 2, api.ErrConflict},
		{"1234567890123456", "1234567890123456", 0, api.OK},
	} {
		text, line, e := base.ParseText(x.s, 16, read, check)
		if text != x.text || line != x.line || e != x.e {
			t.Errorf("ParseText %v: got %q, %v, %v, want %q, %v, %v", i, text, line, e, x.text, x.line, x.e)
		}
	}
}
