package possession_test

import (
	"math/rand/v2"
	"reflect"
	"slices"
	"strconv"
	"strings"
	"testing"

	"versine/api"
	"versine/possession"
)

// want reports results that differ from the expected ones.
func want(t *testing.T, what string, got, wanted []any) {
	t.Helper()
	if !same(reflect.ValueOf(got), reflect.ValueOf(wanted)) {
		t.Errorf("%s: got %v, want %v", what, got, wanted)
	}
}

// same is reflect.DeepEqual, except that nil and empty lists are equal.
func same(a, b reflect.Value) bool {
	if !a.IsValid() || !b.IsValid() {
		return a.IsValid() == b.IsValid()
	}
	if a.Type() != b.Type() {
		return false
	}
	switch a.Kind() {
	case reflect.Interface:
		return same(a.Elem(), b.Elem())
	case reflect.Slice, reflect.Array:
		if a.Len() != b.Len() {
			return false
		}
		for i := range a.Len() {
			if !same(a.Index(i), b.Index(i)) {
				return false
			}
		}
		return true
	case reflect.Struct:
		for i := range a.NumField() {
			if !same(a.Field(i), b.Field(i)) {
				return false
			}
		}
		return true
	}
	return a.Equal(b)
}

// list is results, to be compared.
func list(l ...any) []any { return l }

func ints(l ...int) []int { return l }

func words(l ...string) []string { return l }

func span(from, to int) api.Span { return api.Span{From: from, To: to} }

// spansOf returns spans of pairs of integers.
func spansOf(l ...int) []api.Span {
	var spans []api.Span
	for pair := range slices.Chunk(l, 2) {
		spans = append(spans, span(pair[0], pair[1]))
	}
	return spans
}

// event returns the event with a number, and a line of its kind, its names and its values.
func event(number int, line string) api.Event {
	l := strings.Split(line, " ")
	e := api.Event{Number: number, Kind: l[0]}
	for _, word := range l[1:] {
		if n, err := strconv.Atoi(word); err == nil {
			e.Values = append(e.Values, n)
			continue
		}
		e.Names = append(e.Names, word)
	}
	return e
}

// journal returns the events of lines, with the numbers from 1 on.
func journal(lines ...string) []api.Event {
	var l []api.Event
	for _, line := range lines {
		l = append(l, event(len(l)+1, line))
	}
	return l
}

// lineOf returns the line of an event.
func lineOf(e api.Event) string {
	l := append(words(e.Kind), e.Names...)
	for _, n := range e.Values {
		l = append(l, strconv.Itoa(n))
	}
	return strings.Join(l, " ")
}

// shownLines returns the first n lines of the chapter's examples.
func shownLines(n int) []string {
	return words("track up 0 160", "fault f up 1 100 120 40", "answer f 2", "take p up 3 90 200", "protect p 3", "in tamper p 4", "staff p 4 5",
		"repair f p 5", "out tamper 6", "off p 6 5", "clear p 7", "open p 8", "close p 9 80", "return p 9", "raise p 10 160")[:n]
}

// shown returns the first n events of the chapter's examples, and others behind them.
func shown(n int, more ...string) []api.Event { return journal(append(shownLines(n), more...)...) }

// shape is what an event of a kind has: the things that its names are names of, as in the
// chapter's table, with a + for a new one, and how many values.
type shape struct {
	names  []string
	values int
}

var allShapes = map[string]shape{
	"track":   {words("+track"), 2},
	"fault":   {words("+fault", "track"), 4},
	"answer":  {words("fault"), 1},
	"repair":  {words("fault", "possession"), 1},
	"enter":   {words("+train", "track"), 2},
	"leave":   {words("train"), 1},
	"take":    {words("+possession", "track"), 3},
	"protect": {words("possession"), 1},
	"clear":   {words("possession"), 1},
	"in":      {words("+machine", "possession"), 1},
	"out":     {words("machine"), 1},
	"staff":   {words("possession"), 2},
	"off":     {words("possession"), 2},
	"open":    {words("possession"), 1},
	"close":   {words("possession"), 2},
	"return":  {words("possession"), 1},
	"raise":   {words("possession"), 2},
	"undo":    {nil, 0},
}

func shapes() map[string]shape { return allShapes }

// kinds returns all kinds, in the order of their words.
func kinds() []string {
	var l []string
	for kind := range shapes() {
		l = append(l, kind)
	}
	slices.Sort(l)
	return l
}

// plain returns an event of a kind without an error by itself.
func plain(kind string) api.Event {
	s := shapes()[kind]
	e := api.Event{Number: 7, Kind: kind}
	for i := range s.names {
		e.Names = append(e.Names, "n"+strconv.Itoa(i))
	}
	for i := range s.values {
		e.Values = append(e.Values, 5*i)
	}
	return e
}

// series returns a line for each number from 0 on, below n, which takes the place of each $.
func series(n int, line string) []string {
	var l []string
	for i := range n {
		l = append(l, strings.ReplaceAll(line, "$", strconv.Itoa(i)))
	}
	return l
}

// repeated returns lines n times.
func repeated(n int, lines ...string) []string { return slices.Repeat(lines, n) }

// together returns lines one after the other.
func together(l ...[]string) []string { return slices.Concat(l...) }

// source returns numbers that are the same in each test run.
func source(seed uint64) *rand.Rand { return rand.New(rand.NewPCG(seed, 10)) }

// between returns a number from least to most.
func between(g *rand.Rand, least, most int) int { return least + g.IntN(most-least+1) }

// oneOf returns any element of a list.
func oneOf[T any](g *rand.Rand, l []T) T { return l[g.IntN(len(l))] }

// checkError checks that a call has an error, and beside it zero values alone.
func checkError(t *testing.T, what string, results []any, e api.Errno) {
	t.Helper()
	last := len(results) - 1
	want(t, what, results[last:], list(e))
	for _, x := range results[:last] {
		if v := reflect.ValueOf(x); !same(v, reflect.Zero(v.Type())) {
			t.Errorf("%s: got %v beside an error", what, x)
		}
	}
}

// accepted reports events that are not accepted, one after the other.
func accepted(t *testing.T, l []api.Event) {
	t.Helper()
	if _, n, e := possession.Replay(l); n != 0 || e != api.OK {
		t.Errorf("Replay of %v: got the error %v of the event %v", l, e, n)
	}
}
