package quality_test

import (
	"math"
	"math/big"
	"math/rand/v2"
	"reflect"
	"slices"
	"strings"
	"testing"

	"versine/api"
	"versine/quality"
	"versine/sample"
)

var (
	nan       = float32(math.NaN())
	infinite  = float32(math.Inf(1))
	minusZero = float32(math.Copysign(0, -1))
)

// want reports results that differ from the expected ones.
func want(t *testing.T, what string, got, wanted []any) {
	t.Helper()
	if !same(reflect.ValueOf(got), reflect.ValueOf(wanted)) {
		t.Errorf("%s: got %v, want %v", what, got, wanted)
	}
}

// same is reflect.DeepEqual, except that nil and empty lists are equal, and 0 and -0.
func same(a, b reflect.Value) bool {
	return areEqual(a, b, func(x, y float32) bool { return x == y })
}

// areEqual compares values, and their floats by a function. Nil and empty lists are equal.
func areEqual(a, b reflect.Value, floats func(x, y float32) bool) bool {
	if !a.IsValid() || !b.IsValid() {
		return a.IsValid() == b.IsValid()
	}
	if a.Type() != b.Type() {
		return false
	}
	switch a.Kind() {
	case reflect.Interface:
		return areEqual(a.Elem(), b.Elem(), floats)
	case reflect.Slice, reflect.Array:
		if a.Len() != b.Len() {
			return false
		}
		for i := range a.Len() {
			if !areEqual(a.Index(i), b.Index(i), floats) {
				return false
			}
		}
		return true
	case reflect.Struct:
		for i := range a.NumField() {
			if !areEqual(a.Field(i), b.Field(i), floats) {
				return false
			}
		}
		return true
	case reflect.Float32:
		return floats(float32(a.Float()), float32(b.Float()))
	}
	return a.Equal(b)
}

// list is results, to be compared.
func list(l ...any) []any { return l }

func ints(l ...int) []int { return l }

func span(from, to int) api.Span { return api.Span{From: from, To: to} }

func ratio(num, den int) api.Ratio { return api.Ratio{Num: num, Den: den} }

func moments(count, sum, squares int) quality.Moments {
	return quality.Moments{Count: count, Sum: sum, Squares: squares}
}

func measurement(day, index int) quality.Measurement {
	return quality.Measurement{Day: day, Index: index}
}

func act(day int, kind string) quality.Act { return quality.Act{Day: day, Kind: kind} }

// measured returns measurements with these days and indices.
func measured(l ...int) []quality.Measurement {
	var out []quality.Measurement
	for i := 0; i < len(l); i += 2 {
		out = append(out, measurement(l[i], l[i+1]))
	}
	return out
}

// acts returns interventions on these days.
func acts(days ...int) []quality.Act {
	var out []quality.Act
	for _, day := range days {
		out = append(out, act(day, "tamping"))
	}
	return out
}

func section(name string, l []quality.Measurement, a ...quality.Act) quality.Section {
	return quality.Section{Name: name, Measured: l, Acts: a}
}

// only returns a section without interventions, with measurements with these days and indices.
func only(l ...int) quality.Section { return section("only", measured(l...)) }

// line returns a line by a day, a level and a slope.
func line(day, num, den, rise, by int) quality.Line {
	return quality.Line{Day: day, Level: ratio(num, den), Slope: ratio(rise, by)}
}

// north returns N of the chapter's examples, shownRun R.
func north() quality.Section {
	return section("north", measured(0, 100, 10, 120, 20, 140, 30, 60, 40, 66, 50, 75), acts(25)...)
}

func shownRun() sample.Run { return run(100, 16, 32, 48, 64) }

// run returns a run with integers; none stands for the integer of a hole.
const none = math.MinInt

func run(first int, integers ...int) sample.Run {
	r := sample.Run{Name: "r", First: first, Samples: make([]float32, len(integers))}
	for i, n := range integers {
		switch k := len(r.Holes) - 1; {
		case n != none:
			r.Samples[i] = float32(n) / 16
		case k >= 0 && r.Holes[k].To == i:
			r.Holes[k].To++
		default:
			r.Holes = append(r.Holes, span(i, i+1))
		}
	}
	return r
}

// manyMeasured returns n measurements, manyActs n interventions, manySections n sections.
func manyMeasured(n int) []quality.Measurement {
	var l []quality.Measurement
	for i := range n {
		l = append(l, measurement(3*i, 10*i))
	}
	return l
}

func manyActs(n int) []quality.Act {
	var l []quality.Act
	for i := range n {
		l = append(l, act(5*i, nameOf(i)))
	}
	return l
}

func manySections(n int) []quality.Section {
	var l []quality.Section
	for i := range n {
		l = append(l, section(nameOf(i), manyMeasured(i%4)))
	}
	return l
}

// nameOf returns the name with a number of two digits.
func nameOf(i int) string { return "n" + string(rune('0'+i/10)) + string(rune('0'+i%10)) }

// constant returns n times the same element.
func constant[T any](x T, n int) []T { return slices.Repeat([]T{x}, n) }

// source returns numbers that are the same in each test run.
func source(seed uint64) *rand.Rand { return rand.New(rand.NewPCG(seed, 8)) }

// between returns a number from least to most.
func between(g *rand.Rand, least, most int) int { return least + g.IntN(most-least+1) }

// ascending returns n different numbers from least to most, ascending.
func ascending(g *rand.Rand, n, least, most int) []int {
	seen := map[int]bool{}
	var l []int
	for len(l) < n {
		if x := between(g, least, most); !seen[x] {
			seen[x] = true
			l = append(l, x)
		}
	}
	slices.Sort(l)
	return l
}

// someRun returns a run of up to n samples with holes, whose integers are at most a bound.
func someRun(g *rand.Rand, n, bound int) sample.Run {
	integers := make([]int, g.IntN(n+1))
	often := between(g, 3, 40)
	for i := range integers {
		if integers[i] = between(g, -bound, bound); g.IntN(often) == 0 {
			integers[i] = none
		}
	}
	return run(g.IntN(1000), integers...)
}

// place is the integer of a sample, and whether it is known.
type place struct {
	integer int
	isKnown bool
}

// placesOf returns the places of a run, one by one.
func placesOf(r sample.Run) []place {
	l := make([]place, len(r.Samples))
	for i, x := range r.Samples {
		isHole := slices.ContainsFunc(r.Holes, func(h api.Span) bool { return h.From <= i && i < h.To })
		l[i] = place{int(16 * x), !isHole}
	}
	return l
}

// someSection returns a section with up to n measurements and m interventions on up to so many days, with indices that are anything, or near to lines.
func someSection(g *rand.Rand, n, m, days, bound int) quality.Section {
	first := g.IntN(api.MaxDay - days + 2)
	last := first + days - 1
	s := section("some", nil)
	level, rise, off := g.IntN(bound+1), between(g, -bound, bound), g.IntN(bound/8+2)
	isAny := g.IntN(4) == 0
	for _, day := range ascending(g, g.IntN(min(n, days)+1), first, last) {
		index := level + rise*(day-first)/days + between(g, -off, off)
		if isAny {
			index = g.IntN(bound + 1)
		}
		s.Measured = append(s.Measured, measurement(day, max(min(index, bound), 0)))
	}
	for _, day := range ascending(g, g.IntN(min(m, days)+1), first, last) {
		s.Acts = append(s.Acts, act(day, "tamping"))
	}
	return s
}

// longPeriod returns a period of a section with at least two measurements, and whether there is one.
func longPeriod(g *rand.Rand, s quality.Section) (int, bool) {
	for _, k := range g.Perm(len(s.Acts) + 1) {
		if len(periodOf(s, k)) > 1 {
			return k, true
		}
	}
	return 0, false
}

// periodOf returns the measurements of a period by its definition: as many interventions as its number are on their days, or before.
func periodOf(s quality.Section, period int) []quality.Measurement {
	var l []quality.Measurement
	for _, m := range s.Measured {
		n := 0
		for _, a := range s.Acts {
			if a.Day <= m.Day {
				n++
			}
		}
		if n == period {
			l = append(l, m)
		}
	}
	return l
}

// whole returns an integer as a ratio without bounds, fraction a quotient, rat a ratio.
func whole(n int) *big.Rat { return big.NewRat(int64(n), 1) }

func fraction(num, den int) *big.Rat { return big.NewRat(int64(num), int64(den)) }

func rat(x api.Ratio) *big.Rat { return fraction(x.Num, x.Den) }

// ratioOf returns a ratio without bounds as one of integers.
func ratioOf(x *big.Rat) api.Ratio { return ratio(int(x.Num().Int64()), int(x.Denom().Int64())) }

func plus(l ...*big.Rat) *big.Rat {
	sum := new(big.Rat)
	for _, x := range l {
		sum.Add(sum, x)
	}
	return sum
}

func minus(a, b *big.Rat) *big.Rat { return new(big.Rat).Sub(a, b) }

func times(a, b *big.Rat) *big.Rat { return new(big.Rat).Mul(a, b) }

func by(a, b *big.Rat) *big.Rat { return new(big.Rat).Quo(a, b) }

// valueOn returns the value of a line on a day, without bounds.
func valueOn(l quality.Line, day int) *big.Rat {
	return plus(rat(l.Level), times(rat(l.Slope), whole(day-l.Day)))
}

// isAtLeast reports whether the value of a line on a day is at least a limit.
func isAtLeast(l quality.Line, day, limit int) bool { return valueOn(l, day).Cmp(whole(limit)) >= 0 }

// fitsBy reports whether a line is within an error of measurements, by its definition.
func fitsBy(l quality.Line, m []quality.Measurement, wrong int) bool {
	return !slices.ContainsFunc(m, func(m quality.Measurement) bool {
		off := minus(valueOn(l, m.Day), whole(m.Index))
		return off.Abs(off).Cmp(whole(wrong)) > 0
	})
}

// flaw makes a value have an error.
type flaw[T any] struct {
	e     api.Errno
	spoil func(x *T)
}

// bad is a value with an error.
type bad[T any] struct {
	x T
	e api.Errno
}

// spoiled returns for each flaw a value that has it and all those behind it in the list, and one
// that has it alone. A flaw may write over those behind it.
func spoiled[T any](good func() T, flaws []flaw[T]) []bad[T] {
	var l []bad[T]
	for i, f := range flaws {
		all, one := good(), good()
		for k := len(flaws) - 1; k >= i; k-- {
			flaws[k].spoil(&all)
		}
		f.spoil(&one)
		l = append(l, bad[T]{all, f.e}, bad[T]{one, f.e})
	}
	return l
}

// badNumbers returns numbers that are not from least to most, with an error.
func badNumbers(least, most int, e api.Errno) []bad[int] {
	var l []bad[int]
	for _, n := range []int{math.MinInt, least - 1, most + 1, math.MaxInt} {
		l = append(l, bad[int]{n, e})
	}
	return l
}

// badMoments returns moments with each error, alone, and where those that are listed later are there, too.
func badMoments() []bad[quality.Moments] {
	type m = quality.Moments
	return append(spoiled(func() m { return moments(2, 10, 50) }, []flaw[m]{
		{api.ErrRange, func(x *m) { x.Count = -1 }},
		{api.ErrRange, func(x *m) { x.Count = 4097 }},
		{api.ErrRange, func(x *m) { x.Count = math.MinInt }},
		{api.ErrRange, func(x *m) { x.Count = math.MaxInt }},
		{api.ErrRange, func(x *m) { x.Sum = 32769 }},
		{api.ErrRange, func(x *m) { x.Sum = -32769 }},
		{api.ErrRange, func(x *m) { x.Sum = math.MinInt }},
		{api.ErrRange, func(x *m) { x.Sum = math.MaxInt }},
		{api.ErrRange, func(x *m) { x.Squares = -1 }},
		{api.ErrRange, func(x *m) { x.Squares = 1<<29 + 1 }},
		{api.ErrRange, func(x *m) { x.Squares = math.MinInt }},
		{api.ErrRange, func(x *m) { x.Squares = math.MaxInt }},
		{api.ErrConflict, func(x *m) { x.Squares = 49 }},
	}), []bad[m]{
		{moments(0, 1, 0), api.ErrRange}, {moments(0, -1, 0), api.ErrRange}, {moments(0, 0, 1), api.ErrRange}, {moments(0, 0, -1), api.ErrRange},
		{moments(1, 5, 24), api.ErrConflict}, {moments(1, -5, 24), api.ErrConflict}, {moments(2, -10, 49), api.ErrConflict}, {moments(3, 1, 0), api.ErrConflict},
		{moments(2, 32768, 1<<29-1), api.ErrConflict}, {moments(4096, 1<<26, 1<<40-1), api.ErrConflict}, {moments(4096, 1<<26+1, 1<<40), api.ErrRange}, {moments(4096, 1<<26, 1<<40+1), api.ErrRange},
	}...)
}

// badRuns returns runs of the shape of R with each error.
func badRuns() []bad[sample.Run] {
	type r = sample.Run
	return append(spoiled(shownRun, []flaw[r]{
		{api.ErrName, func(x *r) { x.Name = "" }},
		{api.ErrRange, func(x *r) { x.First = -1 }},
		{api.ErrMany, func(x *r) { x.Samples = constant(nan, 4097) }},
		{api.ErrForm, func(x *r) { x.Samples[0] = nan }},
		{api.ErrRange, func(x *r) { x.Samples[0] = 0.03125 }},
		{api.ErrForm, func(x *r) { x.Samples[2] = infinite }},
		{api.ErrRange, func(x *r) { x.Samples[2] = -1025 }},
		{api.ErrLarge, func(x *r) { x.First = api.MaxPlace - 3 }},
		{api.ErrSpan, func(x *r) { x.Holes = []api.Span{span(2, 2)} }},
		{api.ErrOrder, func(x *r) { x.Holes = []api.Span{span(1, 2), span(2, 3)} }},
		{api.ErrForm, func(x *r) { x.Holes = []api.Span{span(0, 1)} }},
	}), bad[r]{r{}, api.ErrName})
}

// badPlaces returns spans of places that R does not have.
func badPlaces() []bad[api.Span] {
	var l []bad[api.Span]
	for _, s := range []api.Span{
		span(99, 104), span(99, 100), span(99, 99), span(100, 105), span(103, 105), span(104, 105), span(105, 105), span(101, 100), span(104, 103), span(104, 100), span(105, 104),
		span(0, 4), span(0, 0), span(-1, 102), span(math.MinInt, math.MaxInt), span(math.MaxInt, math.MinInt), span(100, math.MaxInt), span(math.MinInt, 104), span(100, math.MinInt), span(math.MaxInt, math.MaxInt),
	} {
		l = append(l, bad[api.Span]{s, api.ErrSpan})
	}
	return l
}

// badMeasurements returns measurements with each error, badActs interventions.
func badMeasurements() []bad[quality.Measurement] {
	var l []bad[quality.Measurement]
	for _, m := range measured(-1, 5, 100001, 5, 60, -1, 60, 100001, -1, 100001, math.MinInt, 0, math.MaxInt, 0, 60, math.MinInt, 60, math.MaxInt, math.MaxInt, math.MinInt) {
		l = append(l, bad[quality.Measurement]{m, api.ErrRange})
	}
	return l
}

func badActs() []bad[quality.Act] {
	type a = quality.Act
	return append(spoiled(func() a { return act(60, "grinding") }, []flaw[a]{
		{api.ErrRange, func(x *a) { x.Day = -1 }},
		{api.ErrRange, func(x *a) { x.Day = 100001 }},
		{api.ErrRange, func(x *a) { x.Day = math.MinInt }},
		{api.ErrRange, func(x *a) { x.Day = math.MaxInt }},
		{api.ErrKind, func(x *a) { x.Kind = "" }},
		{api.ErrKind, func(x *a) { x.Kind = "9" }},
		{api.ErrKind, func(x *a) { x.Kind = "a b" }},
		{api.ErrKind, func(x *a) { x.Kind = "é" }},
		{api.ErrKind, func(x *a) { x.Kind = strings.Repeat("a", 25) }},
	}), bad[a]{act(0, ""), api.ErrKind})
}

// badSections returns sections with each error.
func badSections() []bad[quality.Section] {
	type s = quality.Section
	return append(spoiled(north, []flaw[s]{
		{api.ErrName, func(x *s) { x.Name = "" }},
		{api.ErrName, func(x *s) { x.Name = "_north" }},
		{api.ErrName, func(x *s) { x.Name = strings.Repeat("n", 25) }},
		{api.ErrMany, func(x *s) { x.Measured = make([]quality.Measurement, 33) }},
		{api.ErrRange, func(x *s) { x.Measured[0].Day = -1 }},
		{api.ErrRange, func(x *s) { x.Measured[0].Day = math.MinInt }},
		{api.ErrRange, func(x *s) { x.Measured[0].Index = -1 }},
		{api.ErrRange, func(x *s) { x.Measured[0].Index = 100001 }},
		{api.ErrRange, func(x *s) { x.Measured[1] = measurement(-1, 5) }},
		{api.ErrRange, func(x *s) { x.Measured[1] = measurement(100001, 5) }},
		{api.ErrRange, func(x *s) { x.Measured[1] = measurement(0, 100001) }},
		{api.ErrOrder, func(x *s) { x.Measured[1] = measurement(0, 5) }},
		{api.ErrRange, func(x *s) { x.Measured[5] = measurement(40, math.MaxInt) }},
		{api.ErrOrder, func(x *s) { x.Measured[5].Day = 40 }},
		{api.ErrOrder, func(x *s) { x.Measured[5].Day = 30 }},
		{api.ErrMany, func(x *s) { x.Acts = make([]quality.Act, 17) }},
		{api.ErrRange, func(x *s) { x.Acts[0] = act(-1, "") }},
		{api.ErrRange, func(x *s) { x.Acts[0].Day = 100001 }},
		{api.ErrKind, func(x *s) { x.Acts[0].Kind = "" }},
		{api.ErrKind, func(x *s) { x.Acts[0].Kind = "a-b" }},
		{api.ErrRange, func(x *s) { x.Acts = append(x.Acts[:1:1], act(math.MinInt, "9")) }},
		{api.ErrKind, func(x *s) { x.Acts = append(x.Acts[:1:1], act(25, "9")) }},
		{api.ErrOrder, func(x *s) { x.Acts = append(x.Acts[:1:1], act(25, "b")) }},
		{api.ErrOrder, func(x *s) { x.Acts = append(x.Acts[:1:1], act(24, "b")) }},
	}), bad[s]{s{}, api.ErrName}, bad[s]{section("a", manyMeasured(33)), api.ErrMany}, bad[s]{section("a", nil, manyActs(17)...), api.ErrMany})
}

// badLines returns lines with each error.
func badLines() []bad[quality.Line] {
	type l = quality.Line
	return spoiled(func() l { return line(30, 119, 2, 3, 4) }, []flaw[l]{
		{api.ErrRange, func(x *l) { x.Day = -1 }},
		{api.ErrRange, func(x *l) { x.Day = 100001 }},
		{api.ErrRange, func(x *l) { x.Day = math.MinInt }},
		{api.ErrRange, func(x *l) { x.Level = ratio(1000000000, 2) }},
		{api.ErrRange, func(x *l) { x.Level = ratio(math.MinInt, 1) }},
		{api.ErrRange, func(x *l) { x.Level = ratio(1, 0) }},
		{api.ErrRange, func(x *l) { x.Level = ratio(1, -1) }},
		{api.ErrRange, func(x *l) { x.Level = ratio(2, 1000000000) }},
		{api.ErrForm, func(x *l) { x.Level = ratio(2, 4) }},
		{api.ErrForm, func(x *l) { x.Level = ratio(0, 2) }},
		{api.ErrRange, func(x *l) { x.Slope = ratio(-1000000000, 2) }},
		{api.ErrRange, func(x *l) { x.Slope = ratio(math.MaxInt, 1) }},
		{api.ErrRange, func(x *l) { x.Slope = ratio(0, 0) }},
		{api.ErrRange, func(x *l) { x.Slope = ratio(2, math.MinInt) }},
		{api.ErrForm, func(x *l) { x.Slope = ratio(-6, 4) }},
		{api.ErrForm, func(x *l) { x.Slope = ratio(0, 1000001) }},
		{api.ErrLarge, func(x *l) { x.Level = ratio(1000001, 1) }},
		{api.ErrLarge, func(x *l) { x.Level = ratio(-1000001, 2) }},
		{api.ErrLarge, func(x *l) { x.Level = ratio(1, 1000001) }},
		{api.ErrLarge, func(x *l) { x.Slope = ratio(1000001, 1) }},
		{api.ErrLarge, func(x *l) { x.Slope = ratio(-1000001, 1) }},
		{api.ErrLarge, func(x *l) { x.Slope = ratio(1, 1000001) }},
		{api.ErrLarge, func(x *l) { x.Slope = ratio(-999999999, 999999998) }},
	})
}

// shownSections returns three sections, of which the last one reaches the limit 90 first.
func shownSections() []quality.Section {
	return []quality.Section{section("one", measured(5, 99)), north(), section("two", measured(0, 80, 10, 85))}
}

// badSectionLists returns lists of sections with each error.
func badSectionLists() []bad[[]quality.Section] {
	type l = []quality.Section
	return append(spoiled(shownSections, []flaw[l]{
		{api.ErrMany, func(x *l) { *x = make(l, 33) }},
		{api.ErrName, func(x *l) { (*x)[0].Name = "" }},
		{api.ErrRange, func(x *l) { (*x)[0].Measured[0].Index = -1 }},
		{api.ErrKind, func(x *l) { (*x)[0].Acts = []quality.Act{act(5, "")} }},
		{api.ErrOrder, func(x *l) { (*x)[1] = section((*x)[0].Name, measured(5, 5, 5, 5)) }},
		{api.ErrTwice, func(x *l) { (*x)[1] = (*x)[0] }},
		{api.ErrTwice, func(x *l) { (*x)[1].Name = (*x)[0].Name }},
		{api.ErrMany, func(x *l) { (*x)[2].Acts = manyActs(17) }},
		{api.ErrTwice, func(x *l) { (*x)[2].Name = (*x)[0].Name }},
		{api.ErrTwice, func(x *l) { (*x)[2].Name = (*x)[1].Name }},
	}), bad[l]{manySections(33), api.ErrMany}, bad[l]{append(manySections(31), section("n00", nil)), api.ErrTwice})
}
