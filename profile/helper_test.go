package profile_test

import (
	"math"
	"math/big"
	"math/rand/v2"
	"reflect"
	"slices"
	"strings"
	"testing"

	"versine/api"
	"versine/profile"
	"versine/sample"
)

var (
	nan       = float32(math.NaN())
	infinite  = float32(math.Inf(1))
	minusZero = float32(math.Copysign(0, -1))
)

// want reports results that differ from the expected ones.
func want(t *testing.T, what string, got, wanted []any) {
	t.Helper()
	if !same(reflect.ValueOf(got), reflect.ValueOf(wanted)) {
		t.Errorf("%s: got %v, want %v", what, got, wanted)
	}
}

// same is reflect.DeepEqual, except that nil and empty lists are equal, and 0 and -0.
func same(a, b reflect.Value) bool {
	return areEqual(a, b, func(x, y float32) bool { return x == y })
}

// areEqual compares values, and their floats by a function. Nil and empty lists are equal.
func areEqual(a, b reflect.Value, floats func(x, y float32) bool) bool {
	if !a.IsValid() || !b.IsValid() {
		return a.IsValid() == b.IsValid()
	}
	if a.Type() != b.Type() {
		return false
	}
	switch a.Kind() {
	case reflect.Interface:
		return areEqual(a.Elem(), b.Elem(), floats)
	case reflect.Slice, reflect.Array:
		if a.Len() != b.Len() {
			return false
		}
		for i := range a.Len() {
			if !areEqual(a.Index(i), b.Index(i), floats) {
				return false
			}
		}
		return true
	case reflect.Struct:
		for i := range a.NumField() {
			if !areEqual(a.Field(i), b.Field(i), floats) {
				return false
			}
		}
		return true
	case reflect.Float32:
		return floats(float32(a.Float()), float32(b.Float()))
	}
	return a.Equal(b)
}

// list is results, to be compared.
func list(l ...any) []any { return l }

func ints(l ...int) []int { return l }

func interval(low, high int) api.Interval { return api.Interval{Low: low, High: high} }

func ratio(num, den int) api.Ratio { return api.Ratio{Num: num, Den: den} }

func span(from, to int) api.Span { return api.Span{From: from, To: to} }

func point(x, y int) profile.Point { return profile.Point{X: x, Y: y} }

// shape returns the profile with these X and Y.
func shape(l ...int) profile.Profile {
	var p profile.Profile
	for i := 0; i < len(l); i += 2 {
		p = append(p, point(l[i], l[i+1]))
	}
	return p
}

// nominal, worn and wheel return the profiles N and M, and the wheel W of the chapter's examples.
func nominal() profile.Profile { return shape(0, 0, 10, 10, 30, 10, 40, 0) }

func worn() profile.Profile { return shape(0, 0, 10, 8, 30, 9, 40, 0) }

func wheel() profile.Profile { return shape(0, 20, 20, 12, 40, 20) }

// long returns a profile of n points with the heights 0 and 1 in turn.
func long(n int) profile.Profile {
	var p profile.Profile
	for i := range n {
		p = append(p, point(3*i-30, i%2))
	}
	return p
}

// run returns a run with integers; none stands for the integer of a hole.
const none = math.MinInt

func run(first int, integers ...int) sample.Run {
	r := sample.Run{Name: "r", First: first, Samples: make([]float32, len(integers))}
	for i, n := range integers {
		switch k := len(r.Holes) - 1; {
		case n != none:
			r.Samples[i] = float32(n) / 16
		case k >= 0 && r.Holes[k].To == i:
			r.Holes[k].To++
		default:
			r.Holes = append(r.Holes, span(i, i+1))
		}
	}
	return r
}

// shownProbes, shownEchoes and shownRules return what the chapter's example 7 has.
func shownProbes() []int { return ints(-1, 0, 1) }

func shownEchoes() []profile.Echo { return echoes(0, 110, 10, 1, 100, 10, 2, 90, 11, 1, 200, 5) }

func shownRules() []profile.Rule {
	return []profile.Rule{rule("crack", 2, 3, 0, 3, 0, 5, 5, 20), rule("hole", 1, 3, 0, 10, 0, 10, 4, 12)}
}

// echoes returns the echoes with these probes, places and delays.
func echoes(l ...int) []profile.Echo {
	var out []profile.Echo
	for i := 0; i < len(l); i += 3 {
		out = append(out, profile.Echo{Probe: l[i], Place: l[i+1], Delay: l[i+2]})
	}
	return out
}

// rule returns a rule with the ends of what it asks for.
func rule(class string, ends ...int) profile.Rule {
	l := func(i int) api.Interval { return interval(ends[i], ends[i+1]) }
	return profile.Rule{Class: class, Probes: l(0), Width: l(2), Height: l(4), Depth: l(6)}
}

// constant returns n times the same element.
func constant[T any](x T, n int) []T { return slices.Repeat([]T{x}, n) }

// count returns n numbers from a first one on.
func count(first, n int) []int {
	l := make([]int, n)
	for i := range l {
		l[i] = first + i
	}
	return l
}

// source returns numbers that are the same in each test run.
func source(seed uint64) *rand.Rand { return rand.New(rand.NewPCG(seed, 6)) }

// between returns a number from least to most.
func between(g *rand.Rand, least, most int) int { return least + g.IntN(most-least+1) }

// ascending returns n different numbers from least to most, ascending.
func ascending(g *rand.Rand, n, least, most int) []int {
	l := g.Perm(most - least + 1)[:n]
	slices.Sort(l)
	for i := range l {
		l[i] += least
	}
	return l
}

// someProfile returns a profile of at most so many points, with X from least to most and Y up to a bound.
func someProfile(g *rand.Rand, points, least, most, bound int) profile.Profile {
	var p profile.Profile
	for _, x := range ascending(g, between(g, 2, min(points, most-least+1)), least, most) {
		p = append(p, point(x, between(g, -bound, bound)))
	}
	return p
}

// someColumns returns at most so many columns from least to most.
func someColumns(g *rand.Rand, n, least, most int) []int {
	return ascending(g, between(g, 1, min(n, most-least+1)), least, most)
}

// ends returns the first and the last column of a profile.
func ends(p profile.Profile) (int, int) { return p[0].X, p[len(p)-1].X }

// hasColumn reports whether a column is one of a profile.
func hasColumn(p profile.Profile, column int) bool {
	first, last := ends(p)
	return first <= column && column <= last
}

// quotient is one that is computed without bounds.
func quotient(num, den int) *big.Rat { return big.NewRat(int64(num), int64(den)) }

// line returns the height at a column of the straight lines of a profile, which is not rounded.
func line(p profile.Profile, column int) *big.Rat {
	for i, a := range p[:len(p)-1] {
		if b := p[i+1]; a.X <= column && column <= b.X {
			slope := quotient(b.Y-a.Y, b.X-a.X)
			rise := new(big.Rat).Mul(slope, quotient(column-a.X, 1))
			return rise.Add(rise, quotient(a.Y, 1))
		}
	}
	return nil
}

// nearest returns the integer from a half below a number, without it, to a half above it.
func nearest(x *big.Rat) int {
	y := new(big.Rat).Add(x, quotient(1, 2))
	n := new(big.Int).Div(y.Num(), y.Denom()) // for a denominator above 0 this division goes downwards
	return int(n.Int64())
}

// heightOf returns the height at a column by its definition.
func heightOf(p profile.Profile, column int) int { return nearest(line(p, column)) }

// movedBy returns a moved profile, whether it is one or not.
func movedBy(p profile.Profile, x, y int) profile.Profile {
	var out profile.Profile
	for _, a := range p {
		out = append(out, point(a.X+x, a.Y+y))
	}
	return out
}

func distance(a, b int) int { return max(a-b, b-a) }

// fault makes a value have an error.
type fault[T any] struct {
	e     api.Errno
	spoil func(x *T)
}

// bad is a value with an error.
type bad[T any] struct {
	x T
	e api.Errno
}

// spoiled returns for each fault a value that has it and all those behind it in the list, and one
// that has it alone. A fault may write over those behind it.
func spoiled[T any](good func() T, faults []fault[T]) []bad[T] {
	var l []bad[T]
	for i, f := range faults {
		all, one := good(), good()
		for k := len(faults) - 1; k >= i; k-- {
			faults[k].spoil(&all)
		}
		f.spoil(&one)
		l = append(l, bad[T]{all, f.e}, bad[T]{one, f.e})
	}
	return l
}

// badProfiles returns profiles with each error, alone, and where those that are listed later are there, too.
func badProfiles() []bad[profile.Profile] {
	type p = profile.Profile
	return append(spoiled(nominal, []fault[p]{
		{api.ErrShort, func(x *p) { *x = nil }},
		{api.ErrShort, func(x *p) { *x = shape(20000, 20000) }},
		{api.ErrMany, func(x *p) { *x = append(long(25), *x...) }},
		{api.ErrMany, func(x *p) { *x = constant(point(-20000, 20000), 25) }},
		{api.ErrRange, func(x *p) { (*x)[0] = point(-10001, 0) }},
		{api.ErrRange, func(x *p) { (*x)[0] = point(math.MinInt, 0) }},
		{api.ErrRange, func(x *p) { (*x)[0] = point(0, -10001) }},
		{api.ErrRange, func(x *p) { (*x)[0] = point(0, math.MaxInt) }},
		{api.ErrRange, func(x *p) { (*x)[1] = point(0, 10001) }},
		{api.ErrRange, func(x *p) { (*x)[1] = point(-10001, 0) }},
		{api.ErrRange, func(x *p) { (*x)[1] = point(10001, 0) }},
		{api.ErrOrder, func(x *p) { (*x)[1] = point(0, 0) }},
		{api.ErrOrder, func(x *p) { (*x)[1] = point(-1, 10000) }},
		{api.ErrOrder, func(x *p) { (*x)[2] = point(10, 10) }},
		{api.ErrRange, func(x *p) { (*x)[3] = point(30, math.MinInt) }},
		{api.ErrRange, func(x *p) { (*x)[3] = point(math.MaxInt, 0) }},
		{api.ErrOrder, func(x *p) { (*x)[3] = point(30, 0) }},
		{api.ErrOrder, func(x *p) { (*x)[3] = point(29, 0) }},
		{api.ErrRange, func(x *p) { *x = append((*x)[:4:4], point(41, 10001)) }},
		{api.ErrOrder, func(x *p) { *x = append((*x)[:4:4], point(40, 10000)) }},
	}), bad[p]{shape(0, 0), api.ErrShort}, bad[p]{long(25), api.ErrMany}, bad[p]{shape(5, 0, 5, 0), api.ErrOrder}, bad[p]{shape(1, 0, 0, 0), api.ErrOrder})
}

// badColumns returns columns with each error, for profiles from 0 to 40.
func badColumns() []bad[[]int] {
	type l = []int
	return append(spoiled(func() l { return ints(0, 5, 40) }, []fault[l]{
		{api.ErrEmpty, func(x *l) { *x = nil }},
		{api.ErrMany, func(x *l) { *x = constant(-1, 65) }},
		{api.ErrSpan, func(x *l) { (*x)[0] = -1 }},
		{api.ErrSpan, func(x *l) { (*x)[0] = 41 }},
		{api.ErrSpan, func(x *l) { (*x)[0] = math.MinInt }},
		{api.ErrSpan, func(x *l) { (*x)[1] = -1 }},
		{api.ErrOrder, func(x *l) { (*x)[1] = 0 }},
		{api.ErrOrder, func(x *l) { (*x)[2] = 5 }},
		{api.ErrOrder, func(x *l) { (*x)[2] = 4 }},
		{api.ErrSpan, func(x *l) { (*x)[2] = 41 }},
		{api.ErrSpan, func(x *l) { (*x)[2] = math.MaxInt }},
		{api.ErrOrder, func(x *l) { *x = append(*x, 40) }},
	}), bad[l]{make(l, 64), api.ErrOrder}, bad[l]{count(-12, 65), api.ErrMany})
}

// badMoves returns moves with each error.
func badMoves() []bad[[2]int] {
	var l []bad[[2]int]
	for _, n := range []int{math.MinInt, -101, 101, math.MaxInt} {
		for _, by := range [][2]int{{n, 0}, {0, n}, {n, n}, {100, n}, {n, -100}} {
			l = append(l, bad[[2]int]{by, api.ErrRange})
		}
	}
	return l
}

// badNumbers returns numbers that are not from least to most, with an error.
func badNumbers(least, most int, e api.Errno) []bad[int] {
	var l []bad[int]
	for _, n := range []int{math.MinInt, least - 1, most + 1, math.MaxInt} {
		l = append(l, bad[int]{n, e})
	}
	return l
}

// badRuns returns runs with each error.
func badRuns() []bad[sample.Run] {
	type r = sample.Run
	return append(spoiled(func() r { return run(167, 16, none, 32, 48, 64, 80, 96, 112) }, []fault[r]{
		{api.ErrName, func(x *r) { x.Name = "" }},
		{api.ErrRange, func(x *r) { x.First = -1 }},
		{api.ErrMany, func(x *r) { x.Samples = constant(nan, 4097) }},
		{api.ErrForm, func(x *r) { x.Samples[0] = nan }},
		{api.ErrRange, func(x *r) { x.Samples[0] = 0.03125 }},
		{api.ErrForm, func(x *r) { x.Samples[2] = infinite }},
		{api.ErrRange, func(x *r) { x.Samples[2] = -1025 }},
		{api.ErrLarge, func(x *r) { x.First = api.MaxPlace - 7 }},
		{api.ErrSpan, func(x *r) { x.Holes = []api.Span{span(2, 2)} }},
		{api.ErrOrder, func(x *r) { x.Holes = []api.Span{span(1, 2), span(2, 3)} }},
		{api.ErrForm, func(x *r) { x.Holes = []api.Span{span(0, 1)} }},
	}), bad[r]{r{}, api.ErrName})
}

// badProbes returns probes with each error.
func badProbes() []bad[[]int] {
	return []bad[[]int]{
		{nil, api.ErrEmpty}, {make([]int, 6), api.ErrMany}, {constant(4, 6), api.ErrMany}, {ints(4), api.ErrRange}, {ints(-4), api.ErrRange}, {ints(0, 0, 0, 0, 4), api.ErrRange},
		{ints(0, math.MinInt), api.ErrRange}, {ints(math.MaxInt, 0), api.ErrRange},
	}
}

// badEchoes returns echoes of three probes with each error.
func badEchoes() []bad[[]profile.Echo] {
	type l = []profile.Echo
	return append(spoiled(shownEchoes, []fault[l]{
		{api.ErrMany, func(x *l) { *x = constant(profile.Echo{Probe: 3}, 65) }},
		{api.ErrUnknown, func(x *l) { (*x)[0] = profile.Echo{Probe: 3, Place: -1, Delay: 0} }},
		{api.ErrUnknown, func(x *l) { (*x)[0].Probe = -1 }},
		{api.ErrUnknown, func(x *l) { (*x)[0].Probe = math.MaxInt }},
		{api.ErrRange, func(x *l) { (*x)[0] = profile.Echo{Place: -1, Delay: 1} }},
		{api.ErrRange, func(x *l) { (*x)[0] = profile.Echo{Place: api.MaxPlace + 1, Delay: 1} }},
		{api.ErrRange, func(x *l) { (*x)[0] = profile.Echo{} }},
		{api.ErrRange, func(x *l) { (*x)[0] = profile.Echo{Delay: 1001} }},
		{api.ErrRange, func(x *l) { (*x)[1] = profile.Echo{Place: math.MinInt, Delay: math.MaxInt} }},
		{api.ErrRange, func(x *l) { (*x)[1].Delay = math.MinInt }},
		{api.ErrUnknown, func(x *l) { (*x)[3] = profile.Echo{Probe: math.MinInt} }},
		{api.ErrRange, func(x *l) { (*x)[3].Place = math.MaxInt }},
		{api.ErrRange, func(x *l) { (*x)[3].Delay = -1 }},
	}), bad[l]{constant(profile.Echo{Delay: 1}, 65), api.ErrMany})
}

// badRules returns rules with each error.
func badRules() []bad[[]profile.Rule] {
	type l = []profile.Rule
	return append(spoiled(shownRules, []fault[l]{
		{api.ErrMany, func(x *l) { *x = make(l, 9) }},
		{api.ErrName, func(x *l) { (*x)[0].Class = "" }},
		{api.ErrName, func(x *l) { (*x)[0].Class = "a b" }},
		{api.ErrRange, func(x *l) { (*x)[0].Probes = interval(-1, -2) }},
		{api.ErrRange, func(x *l) { (*x)[0].Probes = interval(1, 100001) }},
		{api.ErrOrder, func(x *l) { (*x)[0].Probes = interval(1, 0) }},
		{api.ErrRange, func(x *l) { (*x)[0].Width = interval(100001, 0) }},
		{api.ErrRange, func(x *l) { (*x)[0].Width = interval(0, -1) }},
		{api.ErrOrder, func(x *l) { (*x)[0].Width = interval(100000, 99999) }},
		{api.ErrRange, func(x *l) { (*x)[0].Height = interval(math.MinInt, 0) }},
		{api.ErrRange, func(x *l) { (*x)[0].Height = interval(0, math.MaxInt) }},
		{api.ErrOrder, func(x *l) { (*x)[0].Height = interval(5, 4) }},
		{api.ErrRange, func(x *l) { (*x)[0].Depth = interval(-1, 5) }},
		{api.ErrRange, func(x *l) { (*x)[0].Depth = interval(7, -5) }},
		{api.ErrOrder, func(x *l) { (*x)[0].Depth = interval(2, 1) }},
		{api.ErrName, func(x *l) { (*x)[1].Class = strings.Repeat("a", 25) }},
		{api.ErrTwice, func(x *l) { (*x)[1].Class = (*x)[0].Class }},
		{api.ErrRange, func(x *l) { (*x)[1].Probes = interval(-5, 1) }},
		{api.ErrOrder, func(x *l) { (*x)[1].Depth = interval(1, 0) }},
	}), bad[l]{manyRules(9), api.ErrMany}, bad[l]{append(manyRules(7), rule("r1", 0, 0, 0, 0, 0, 0, 0, 0)), api.ErrTwice})
}

// manyRules returns n rules of different classes that ask for nothing.
func manyRules(n int) []profile.Rule {
	var l []profile.Rule
	for i := range n {
		l = append(l, rule("r"+string(rune('0'+i)), 0, 100000, 0, 100000, 0, 100000, 0, 100000))
	}
	return l
}
