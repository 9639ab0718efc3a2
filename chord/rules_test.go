package chord_test

import (
	"math"
	"math/rand/v2"
	"reflect"
	"slices"
	"testing"

	"versine/api"
	"versine/chord"
	"versine/sample"
)

// guarded returns a list with room behind it, and whether nobody wrote into it or its room.
func guarded[T comparable](l []T, guard T) ([]T, func() bool) {
	room := append(slices.Clone(l), guard, guard, guard)
	before := slices.Clone(room)
	return room[:len(l)], func() bool { return slices.Equal(room, before) }
}

// guardedTrace returns a trace with such lists.
func guardedTrace(t chord.Trace) (chord.Trace, func() bool) {
	values, areSame := guarded(t.Values, -7)
	holes, areHolesSame := guarded(t.Holes, span(-7, -7))
	t.Values, t.Holes = values, holes
	return t, func() bool { return areSame() && areHolesSame() }
}

// spoil writes over all that a trace has.
func spoil(t chord.Trace) {
	for i := range t.Values {
		t.Values[i] = 99
	}
	for i := range t.Holes {
		t.Holes[i] = span(-9, -9)
	}
}

func copied(t chord.Trace) chord.Trace {
	t.Values, t.Holes = slices.Clone(t.Values), slices.Clone(t.Holes)
	return t
}

// TestTracesShareNoMemory checks of all functions that return traces that the arguments stay, and that results are new memory.
func TestTracesShareNoMemory(t *testing.T) {
	type maker = func(a, b chord.Trace, ends []int) (chord.Trace, api.Errno)
	for name, f := range map[string]maker{
		"Versines":         func(a, b chord.Trace, ends []int) (chord.Trace, api.Errno) { return chord.Versines(arms(1, 2), a) },
		"Curvature":        func(a, b chord.Trace, ends []int) (chord.Trace, api.Errno) { return chord.Curvature(a) },
		"Weighted":         func(a, b chord.Trace, ends []int) (chord.Trace, api.Errno) { return chord.Weighted(arms(1, 2), a) },
		"Weighted by 1, 1": func(a, b chord.Trace, ends []int) (chord.Trace, api.Errno) { return chord.Weighted(arms(1, 1), a) },
		"Lengthened": func(a, b chord.Trace, ends []int) (chord.Trace, api.Errno) {
			return chord.Lengthened(arms(1, 1), 2, a)
		},
		"Restored": func(a, b chord.Trace, ends []int) (chord.Trace, api.Errno) {
			return chord.Restored(arms(1, 2), a, ends)
		},
		"Restored from nothing": func(a, b chord.Trace, ends []int) (chord.Trace, api.Errno) {
			return chord.Restored(arms(1, 2), made(5), ends)
		},
		"Repeated":      func(a, b chord.Trace, ends []int) (chord.Trace, api.Errno) { return chord.Repeated(ends, 5, 3) },
		"Reversed":      func(a, b chord.Trace, ends []int) (chord.Trace, api.Errno) { return chord.Reversed(a, 20) },
		"Sum":           func(a, b chord.Trace, ends []int) (chord.Trace, api.Errno) { return chord.Sum(a, b) },
		"Sum of one":    func(a, b chord.Trace, ends []int) (chord.Trace, api.Errno) { return chord.Sum(a, a) },
		"Smoothed":      func(a, b chord.Trace, ends []int) (chord.Trace, api.Errno) { return chord.Smoothed(a, 1) },
		"Smoothed by 0": func(a, b chord.Trace, ends []int) (chord.Trace, api.Errno) { return chord.Smoothed(a, 0) },
		"Band":          func(a, b chord.Trace, ends []int) (chord.Trace, api.Errno) { return chord.Band(a, 0, 1) },
	} {
		a, isSame := guardedTrace(torn())
		b, isOtherSame := guardedTrace(made(10, 1, 1, 1, unknown, unknown, 1))
		ends, areEndsSame := guarded([]int{5, 6, 7}, -7)
		x, e := f(a, b, ends)
		first := copied(x)
		want(t, name, list(e, isSame(), isOtherSame(), areEndsSame()), list(api.OK, true, true, true))
		again, _ := f(a, b, ends)
		spoil(x)
		want(t, name+" and spoiled", list(isSame(), isOtherSame(), areEndsSame()), list(true, true, true))
		want(t, name+" again", list(again), list(first))
		spoil(a)
		spoil(b)
		clear(ends)
		want(t, name+" of spoiled arguments", list(again), list(first))
	}
}

// TestListsShareNoMemory checks the same of the functions of other lists.
func TestListsShareNoMemory(t *testing.T) {
	r := sample.Run{Name: "r", First: 7, Samples: []float32{1, 0, 3}, Holes: []api.Span{span(1, 2)}}
	x, e := chord.Traced(r)
	first := copied(x)
	y, f := chord.Traced(r)
	spoil(y)
	want(t, "Traced keeps its run", list(r.Samples, r.Holes, e, f), list([]float32{1, 0, 3}, []api.Span{span(1, 2)}, api.OK, api.OK))
	clear(r.Samples)
	clear(r.Holes)
	want(t, "Traced of a spoiled run", list(x), list(first))

	for name, f := range map[string]func() ([]int, api.Errno){
		"Weights":      func() ([]int, api.Errno) { return chord.Weights(arms(6, 12)) },
		"Blind":        func() ([]int, api.Errno) { return chord.Blind(arms(6, 12)) },
		"Both":         func() ([]int, api.Errno) { return chord.Both(arms(6, 12), arms(12, 12)) },
		"Both of one":  func() ([]int, api.Errno) { return chord.Both(arms(6, 12), arms(6, 12)) },
		"Both as Both": func() ([]int, api.Errno) { return chord.Both(arms(6, 12), arms(12, 6)) },
	} {
		l, _ := f()
		first := slices.Clone(l)
		clear(l)
		again, e := f()
		want(t, name+" after spoiled results", list(again, e), list(first, api.OK))
	}

	a, isSame := guardedTrace(torn())
	readings, areReadingsSame := guardedTrace(made(11, -6, unknown, 3))
	wave, isWaveSame := guarded([]int{1, 0, 0}, -7)
	_, e1 := chord.Again(arms(1, 2), a, readings)
	_, e2 := chord.Sees(arms(4, 6), wave)
	_, e3 := chord.Panel(a, 10)
	s, e4 := chord.Print(a)
	want(t, "Again, Sees, Panel and Print", list(e1, e2, e3, s, e4, chord.CheckTrace(a)), list(api.OK, api.OK, api.ErrNone, shownText, api.OK, api.OK))
	want(t, "their arguments", list(isSame(), areReadingsSame(), isWaveSame()), list(true, true, true))
	x, _, _ = chord.Parse(shownText)
	spoil(x)
	x, line, e := chord.Parse(shownText)
	want(t, "Parse again", list(x, line, e), list(torn(), 0, api.OK))
}

// anyInt, anyChord, anyList, anyTrace, anyRun and anyText return arguments of any form.
func anyInt(g *rand.Rand) int {
	l := []int{math.MinInt, math.MinInt + 1, -1 << 31, -1<<30 - 1, -1, 0, 0, 1, 1, 2, 3, 5, 12, 32, 33, 64, 65, 4096, 4097, 1 << 30, 1<<30 + 1, api.MaxPlace - 4, api.MaxPlace, api.MaxPlace + 1, math.MaxInt - 1, math.MaxInt}
	return l[g.IntN(len(l))]
}

func anyChord(g *rand.Rand) chord.Chord {
	if g.IntN(4) == 0 {
		return arms(anyInt(g), anyInt(g))
	}
	return someChord(g, 1+g.IntN(4))
}

func anyList(g *rand.Rand, c chord.Chord) []int {
	switch g.IntN(4) {
	case 0:
		return someValues(g, g.IntN(6), 100, 1<<40)
	case 1:
		return make([]int, g.IntN(80))
	case 2:
		return constant(anyInt(g), g.IntN(6))
	}
	return someValues(g, (c.Before&63)+(c.After&63), 100, 1<<40)
}

func anyTrace(g *rand.Rand) chord.Trace {
	switch g.IntN(6) {
	case 0:
		l := badTraces()
		return l[g.IntN(len(l))].t
	case 1:
		t := chord.Trace{First: anyInt(g), Values: constant(anyInt(g), g.IntN(5))}
		for range g.IntN(3) {
			t.Holes = append(t.Holes, span(anyInt(g), anyInt(g)))
		}
		return t
	case 2:
		return made(anyInt(g), make([]int, g.IntN(4200))...)
	}
	return someTrace(g, 16)
}

func anyRun(g *rand.Rand) sample.Run {
	t := anyTrace(g)
	r := sample.Run{Name: []string{"", "r", "9"}[g.IntN(3)], First: t.First, Holes: t.Holes}
	for _, n := range t.Values {
		r.Samples = append(r.Samples, float32(n%16384)/16)
	}
	return r
}

func anyText(g *rand.Rand) string {
	words := []string{"trace", "value", "hole", "value 1", "hole\n", "0", "1", "-1", "-0", "01", "1073741825", "99999999999", "", " ", "\n", "\n", "\n", "\xff", "\x00", "é"}
	s := []string{"", "trace 0 1\n", shownText}[g.IntN(3)]
	for range g.IntN(8) {
		s += words[g.IntN(len(words))]
		if g.IntN(2) > 0 {
			s += " "
		}
	}
	return s
}

// allResults returns the results of all functions for arguments of any form, each one followed by its error, and these arguments.
func allResults(g *rand.Rand) (results, arguments []any) {
	add := func(l ...any) { results = append(results, l...) }
	c, d, a, b, r, s := anyChord(g), anyChord(g), anyTrace(g), anyTrace(g), anyRun(g), anyText(g)
	if g.IntN(2) == 0 {
		b = a
	}
	l, n, m := anyList(g, c), anyInt(g), anyInt(g)
	add(chord.Traced(r))
	add(chord.Versines(c, a))
	add(chord.Curvature(a))
	add(chord.Weights(c))
	add(chord.Weighted(c, a))
	add(chord.Lengthened(c, n, a))
	add(chord.Transfer(c))
	add(chord.Blind(c))
	add(chord.Both(c, d))
	add(chord.Sees(c, l))
	add(chord.Repeated(l, n, m))
	add(chord.Restored(c, a, l))
	add(chord.Again(c, a, b))
	add(chord.Turned(c))
	add(chord.Reversed(a, n))
	add(chord.Sum(a, b))
	add(chord.Smoothed(a, n))
	add(chord.Band(a, n, m))
	add(chord.Panel(a, n))
	add(chord.Print(a))
	parsed, line, e := chord.Parse(s)
	add(parsed, e)
	if e == api.OK {
		add(line, api.ErrNone) // an index of no line
	}
	add(chord.CheckChord(c), chord.CheckTrace(a))
	return results, list(c, d, a, b, r, s, l)
}

// TestAnyArguments checks that no function panics or does not terminate, that each returns the same results again, and that none changes its arguments.
func TestAnyArguments(t *testing.T) {
	for seed := range uint64(1500) {
		results, arguments := allResults(source(seed))
		again, same := allResults(source(seed))
		want(t, "results again", list(seed, results, arguments), list(seed, again, same))
	}
	g, k := source(5000), source(5000)
	for range 300 {
		_, arguments := allResults(g)
		c, d, a, b := anyChord(k), anyChord(k), anyTrace(k), anyTrace(k) // made again, without a call
		r, s := anyRun(k), anyText(k)
		if k.IntN(2) == 0 {
			b = a
		}
		l := anyList(k, c)
		anyInt(k)
		anyInt(k)
		want(t, "arguments", arguments, list(c, d, a, b, r, s, l))
	}
}

// TestZeroBesideErrors checks that beside an error every other result is its zero value.
func TestZeroBesideErrors(t *testing.T) {
	g := source(30)
	for range 2000 {
		results, _ := allResults(g)
		for i := 0; i+2 < len(results); i += 2 {
			if x := reflect.ValueOf(results[i]); results[i+1] != api.OK && !same(x, reflect.Zero(x.Type())) {
				t.Errorf("the result %v beside the error %v: got %v", i, results[i+1], results[i])
			}
		}
	}
}

// TestResultsAreWellFormed checks that each trace that is returned without an error is one, and each chord.
func TestResultsAreWellFormed(t *testing.T) {
	g := source(31)
	traces := 0
	for range 2000 {
		results, _ := allResults(g)
		for i := 0; i+2 < len(results); i += 2 {
			if results[i+1] != api.OK {
				continue
			}
			switch x := results[i].(type) {
			case chord.Trace:
				traces++
				want(t, "the error of a result", list(i, x, chord.CheckTrace(x)), list(i, x, api.OK))
			case chord.Chord:
				want(t, "the error of a chord", list(i, x, chord.CheckChord(x)), list(i, x, api.OK))
			}
		}
	}
	if traces < 3000 {
		t.Error("too few traces are returned: ", traces)
	}
}
