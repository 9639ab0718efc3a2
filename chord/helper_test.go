package chord_test

import (
	"math"
	"math/rand/v2"
	"reflect"
	"slices"
	"testing"

	"versine/api"
	"versine/chord"
)

// want reports results that differ from the expected ones.
func want(t *testing.T, what string, got, wanted []any) {
	t.Helper()
	if !same(reflect.ValueOf(got), reflect.ValueOf(wanted)) {
		t.Errorf("%s: got %v, want %v", what, got, wanted)
	}
}

// same is reflect.DeepEqual, except that nil and empty lists are equal, and 0 and -0.
func same(a, b reflect.Value) bool {
	if !a.IsValid() || !b.IsValid() {
		return a.IsValid() == b.IsValid()
	}
	if a.Type() != b.Type() {
		return false
	}
	switch a.Kind() {
	case reflect.Interface:
		return same(a.Elem(), b.Elem())
	case reflect.Slice, reflect.Array:
		if a.Len() != b.Len() {
			return false
		}
		for i := range a.Len() {
			if !same(a.Index(i), b.Index(i)) {
				return false
			}
		}
		return true
	case reflect.Struct:
		for i := range a.NumField() {
			if !same(a.Field(i), b.Field(i)) {
				return false
			}
		}
		return true
	}
	return a.Equal(b)
}

// list is results, to be compared.
func list(l ...any) []any { return l }

func span(from, to int) api.Span { return api.Span{From: from, To: to} }

func arms(before, after int) chord.Chord { return chord.Chord{Before: before, After: after} }

func trace(first int, values []int, holes ...api.Span) chord.Trace {
	return chord.Trace{First: first, Values: values, Holes: holes}
}

// unknown is an unknown value in the lists of ints by which the tests write traces.
const unknown = math.MinInt

// made returns the trace with these values, where unknown ones are holes.
func made(first int, values ...int) chord.Trace {
	t := chord.Trace{First: first}
	for i, n := range values {
		if n != unknown {
			t.Values = append(t.Values, n)
			continue
		}
		t.Values = append(t.Values, 0)
		if i > 0 && values[i-1] == unknown {
			t.Holes[len(t.Holes)-1].To++
			continue
		}
		t.Holes = append(t.Holes, span(i, i+1))
	}
	return t
}

// values returns what made makes a trace of.
func values(t chord.Trace) []int {
	l := slices.Clone(t.Values)
	for _, h := range t.Holes {
		for i := h.From; i < h.To; i++ {
			l[i] = unknown
		}
	}
	return l
}

// squares is the trace T of the chapter's examples, torn the one with a hole at the index 2.
func squares() chord.Trace { return made(10, 0, 1, 4, 9, 16, 25) }

func torn() chord.Trace { return made(10, 0, 1, unknown, 9, 16, 25) }

// constant returns n times the same value.
func constant(value, n int) []int { return slices.Repeat([]int{value}, n) }

// source returns numbers that are the same in each test run.
func source(seed uint64) *rand.Rand { return rand.New(rand.NewPCG(seed, 3)) }

// between returns a number from least to most.
func between(g *rand.Rand, least, most int) int { return least + g.IntN(most-least+1) }

func someChord(g *rand.Rand, most int) chord.Chord {
	return arms(between(g, 1, most), between(g, 1, most))
}

// someValues returns n values from -bound to bound, of which about one in so many is unknown.
func someValues(g *rand.Rand, n, bound, oneIn int) []int {
	l := make([]int, n)
	for i := range l {
		l[i] = between(g, -bound, bound)
		if g.IntN(oneIn) == 0 {
			l[i] = unknown
		}
	}
	return l
}

// someTrace returns a trace of at most so many values.
func someTrace(g *rand.Rand, most int) chord.Trace {
	l := someValues(g, g.IntN(most+1), 1<<g.IntN(31), 1+g.IntN(20))
	return made(g.IntN(50), l...)
}

// at returns the value of a trace at a place, or unknown, and whether the trace has the place.
func at(t chord.Trace, place int) (int, bool) {
	i := place - t.First
	if i < 0 || i >= len(t.Values) {
		return 0, false
	}
	for _, h := range t.Holes {
		if h.From <= i && i < h.To {
			return unknown, true
		}
	}
	return t.Values[i], true
}

// weighed returns at each place for which a trace has the places at all distances the sum of the
// values there, times their weights, with the errors ErrShort and ErrLarge.
func weighed(t chord.Trace, weights map[int]int) (chord.Trace, api.Errno) {
	first := 0
	var sums []int
next:
	for p := t.First; p < t.First+len(t.Values); p++ {
		sum, isKnown := 0, true
		for distance, weight := range weights {
			n, is := at(t, p+distance)
			if !is {
				continue next
			}
			if n == unknown {
				isKnown = false
				continue
			}
			sum += weight * n
		}
		if !isKnown {
			sum = unknown
		}
		if len(sums) == 0 {
			first = p
		}
		sums = append(sums, sum)
	}
	if len(sums) == 0 {
		return chord.Trace{}, api.ErrShort
	}
	if slices.ContainsFunc(sums, func(n int) bool { return n != unknown && (n < -1<<30 || n > 1<<30) }) {
		return chord.Trace{}, api.ErrLarge
	}
	return made(first, sums...), api.OK
}

// versineWeights and weightsOf are the chapter's weights, by distances.
func versineWeights(c chord.Chord) map[int]int {
	return map[int]int{0: c.Before + c.After, -c.Before: -c.After, c.After: -c.Before}
}

func weightsOf(c chord.Chord, step int) map[int]int {
	weights := map[int]int{}
	for k := 1 - c.Before; k <= c.After-1; k++ {
		if k <= 0 {
			weights[k*step] = c.After * (c.Before + k)
		} else {
			weights[k*step] = c.Before * (c.After - k)
		}
	}
	return weights
}

// badTrace is a trace with an error.
type badTrace struct {
	t chord.Trace
	e api.Errno
}

// badTraces returns traces with each error, also where those that are listed later are there, too.
func badTraces() []badTrace {
	const most = api.MaxPlace
	wrong := span(5, 5)
	return []badTrace{
		{trace(-1, constant(1<<30+1, 4097), wrong), api.ErrRange},
		{trace(-1, nil), api.ErrRange},
		{trace(most+1, constant(1<<30+1, 4097), wrong), api.ErrRange},
		{trace(most+1, nil), api.ErrRange},
		{trace(math.MinInt, []int{1}), api.ErrRange},
		{trace(math.MaxInt, []int{1}), api.ErrRange},
		{trace(most, constant(1<<30+1, 4097), wrong), api.ErrMany},
		{trace(0, constant(0, 4097)), api.ErrMany},
		{trace(most, constant(1<<30+1, 4096), wrong), api.ErrLarge},
		{trace(most, []int{0}), api.ErrLarge},
		{trace(most-4095, constant(0, 4096)), api.ErrLarge},
		{trace(0, []int{1, 1<<30 + 1, 2}, wrong), api.ErrRange},
		{trace(0, []int{1, 2, -1<<30 - 1}, wrong), api.ErrRange},
		{trace(0, []int{math.MaxInt}), api.ErrRange},
		{trace(0, []int{math.MinInt}), api.ErrRange},
		{trace(0, []int{math.MinInt}, span(0, 1)), api.ErrRange},
		{trace(0, []int{7, 7, 7}, span(-1, 1)), api.ErrSpan},
		{trace(0, []int{7, 7, 7}, span(2, 2)), api.ErrSpan},
		{trace(0, []int{7, 7, 7}, span(2, 1)), api.ErrSpan},
		{trace(0, []int{7, 7, 7}, span(2, 4)), api.ErrSpan},
		{trace(0, []int{7, 7, 7}, span(math.MaxInt, math.MinInt)), api.ErrSpan},
		{trace(0, []int{7, 7, 7}, span(math.MinInt, math.MaxInt)), api.ErrSpan},
		{trace(0, nil, span(0, 0)), api.ErrSpan},
		{trace(0, nil, span(0, 1)), api.ErrSpan},
		{trace(0, []int{7, 0, 0}, span(1, 2), span(2, 3), span(7, 7)), api.ErrOrder},
		{trace(0, []int{7, 0, 0}, span(1, 2), span(7, 7), span(2, 3)), api.ErrSpan},
		{trace(0, []int{0, 0, 0}, span(2, 3), span(0, 1)), api.ErrOrder},
		{trace(0, []int{0, 0, 0}, span(0, 2), span(1, 3)), api.ErrOrder},
		{trace(0, []int{0, 0, 0}, span(0, 1), span(0, 1)), api.ErrOrder},
		{trace(0, []int{5, 0, 0, 0}, span(0, 1), span(1, 2)), api.ErrOrder},
		{trace(0, []int{5, 0}, span(0, 1)), api.ErrForm},
		{trace(0, []int{0, 2, 0, -1}, span(0, 1), span(2, 4)), api.ErrForm},
	}
}
