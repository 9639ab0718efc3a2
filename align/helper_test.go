package align_test

import (
	"math"
	"math/big"
	"math/rand/v2"
	"reflect"
	"slices"
	"strconv"
	"strings"
	"testing"

	"versine/align"
	"versine/api"
	"versine/sample"
)

var (
	nan       = float32(math.NaN())
	infinite  = float32(math.Inf(1))
	minusZero = float32(math.Copysign(0, -1))
)

// want reports results that differ from the expected ones.
func want(t *testing.T, what string, got, wanted []any) {
	t.Helper()
	if !same(reflect.ValueOf(got), reflect.ValueOf(wanted)) {
		t.Errorf("%s: got %v, want %v", what, got, wanted)
	}
}

// same is reflect.DeepEqual, except that nil and empty lists are equal, and 0 and -0.
func same(a, b reflect.Value) bool {
	return areEqual(a, b, func(x, y float32) bool { return x == y })
}

// areEqual compares values, and their floats by a function. Nil and empty lists are equal.
func areEqual(a, b reflect.Value, floats func(x, y float32) bool) bool {
	if !a.IsValid() || !b.IsValid() {
		return a.IsValid() == b.IsValid()
	}
	if a.Type() != b.Type() {
		return false
	}
	switch a.Kind() {
	case reflect.Interface:
		return areEqual(a.Elem(), b.Elem(), floats)
	case reflect.Slice, reflect.Array:
		if a.Len() != b.Len() {
			return false
		}
		for i := range a.Len() {
			if !areEqual(a.Index(i), b.Index(i), floats) {
				return false
			}
		}
		return true
	case reflect.Struct:
		for i := range a.NumField() {
			if !areEqual(a.Field(i), b.Field(i), floats) {
				return false
			}
		}
		return true
	case reflect.Float32:
		return floats(float32(a.Float()), float32(b.Float()))
	}
	return a.Equal(b)
}

// list is results, to be compared.
func list(l ...any) []any { return l }

func span(from, to int) api.Span { return api.Span{From: from, To: to} }

// spans returns the spans with these ends.
func spans(ends ...int) []api.Span {
	var l []api.Span
	for i := 0; i < len(ends); i += 2 {
		l = append(l, span(ends[i], ends[i+1]))
	}
	return l
}

func places(low, high int) api.Interval { return api.Interval{Low: low, High: high} }

// pairs returns the alignment with these sights and marks.
func pairs(indices ...int) []align.Pair {
	var l []align.Pair
	for i := 0; i < len(indices); i += 2 {
		l = append(l, align.Pair{Sight: indices[i], Mark: indices[i+1]})
	}
	return l
}

// ride returns the ride with marks and sights, each of which is written as a kind and a number.
func ride(marks, sights string) align.Ride {
	var r align.Ride
	for m := range slices.Chunk(strings.Fields(marks), 2) {
		n, _ := strconv.Atoi(m[1])
		r.Marks = append(r.Marks, align.Mark{Kind: m[0], Place: n})
	}
	for s := range slices.Chunk(strings.Fields(sights), 2) {
		n, _ := strconv.Atoi(s[1])
		r.Sights = append(r.Sights, align.Sight{Kind: s[0], Count: n})
	}
	return r
}

// shown is the ride R of the chapter's examples, least its least alignment, shownCosts the costs.
func shown() align.Ride {
	return ride("balise 100 joint 250 balise 400", "balise 95 joint 240 joint 300 balise 392")
}

func least() []align.Pair { return pairs(0, 0, 1, 1, 3, 2) }

func shownCosts() align.Costs { return costs(20, 10, 1) }

func costs(missed, unseen, stretch int) align.Costs {
	return align.Costs{Missed: missed, Unseen: unseen, Stretch: stretch}
}

func slip(rate, blur int) align.Slip { return align.Slip{Rate: rate, Blur: blur} }

// run returns a run that is known at all places, with integers; none is also the integer of a hole.
const none = math.MinInt

func run(first int, integers ...int) sample.Run {
	r := sample.Run{Name: "r", First: first, Samples: make([]float32, len(integers))}
	for i, n := range integers {
		switch k := len(r.Holes) - 1; {
		case n != none:
			r.Samples[i] = float32(n) / 16
		case k >= 0 && r.Holes[k].To == i:
			r.Holes[k].To++
		default:
			r.Holes = append(r.Holes, span(i, i+1))
		}
	}
	return r
}

// known returns the integers of a run at the places at which it is known.
func known(r sample.Run) map[int]int {
	l := map[int]int{}
	for i, x := range r.Samples {
		l[r.First+i] = int(16 * x)
	}
	for _, h := range r.Holes {
		for i := h.From; i < h.To; i++ {
			delete(l, r.First+i)
		}
	}
	return l
}

// constant returns n times the same element.
func constant[T any](x T, n int) []T { return slices.Repeat([]T{x}, n) }

// source returns numbers that are the same in each test run.
func source(seed uint64) *rand.Rand { return rand.New(rand.NewPCG(seed, 5)) }

// between returns a number from least to most.
func between(g *rand.Rand, least, most int) int { return least + g.IntN(most-least+1) }

// ascending returns n different numbers from 0 to most, ascending.
func ascending(g *rand.Rand, n, most int) []int {
	l := g.Perm(most + 1)[:n]
	slices.Sort(l)
	return l
}

// someRide returns a ride of at most so many marks, and sights, of at most so many kinds, in places and counts up to a number.
func someRide(g *rand.Rand, size, kinds, most int) align.Ride {
	var r align.Ride
	kind := func() string { return string(rune('a' + g.IntN(kinds))) }
	for _, n := range ascending(g, g.IntN(size+1), most) {
		r.Marks = append(r.Marks, align.Mark{Kind: kind(), Place: n})
	}
	for _, n := range ascending(g, g.IntN(size+1), most) {
		r.Sights = append(r.Sights, align.Sight{Kind: kind(), Count: n})
	}
	return r
}

func someCosts(g *rand.Rand, most int) align.Costs {
	return costs(g.IntN(most+1), g.IntN(most+1), g.IntN(most+1))
}

// somePairs returns an alignment of a ride.
func somePairs(g *rand.Rand, r align.Ride) []align.Pair {
	var l []align.Pair
	mark := 0
	for sight := range r.Sights {
		for m := mark; m < len(r.Marks) && g.IntN(4) > 0; m++ {
			if r.Marks[m].Kind == r.Sights[sight].Kind {
				l = append(l, align.Pair{Sight: sight, Mark: m})
				mark = m + 1
				break
			}
		}
	}
	return l
}

// someRun returns a run of at most so many samples up to a bound, with holes, from a place up to most on.
func someRun(g *rand.Rand, most, samples, bound int) sample.Run {
	integers := make([]int, g.IntN(samples+1))
	for i := range integers {
		integers[i] = between(g, -bound, bound)
		if g.IntN(5) == 0 {
			integers[i] = none
		}
	}
	return run(g.IntN(most+1), integers...)
}

// ratio is a quotient that is computed without bounds.
func ratio(num, den int) *big.Rat { return big.NewRat(int64(num), int64(den)) }

// nearest returns the integer from a half below a ratio, without it, to a half above it.
func nearest(x *big.Rat) int {
	y := new(big.Rat).Add(x, ratio(1, 2))
	n := new(big.Int).Div(y.Num(), y.Denom()) // for a denominator above 0 this division goes downwards
	return int(n.Int64())
}

// upwards returns the least integer that is not below a ratio.
func upwards(x *big.Rat) int {
	n := new(big.Int).Div(new(big.Int).Neg(x.Num()), x.Denom())
	return -int(n.Int64())
}

func distance(a, b int) int { return max(a-b, b-a) }

// fault makes a value have an error.
type fault[T any] struct {
	e     api.Errno
	spoil func(x *T)
}

// bad is a value with an error.
type bad[T any] struct {
	x T
	e api.Errno
}

// spoiled returns for each fault a value that has it and all those behind it in the list, and one
// that has it alone. A fault may write over those behind it.
func spoiled[T any](good func() T, faults []fault[T]) []bad[T] {
	var l []bad[T]
	for i, f := range faults {
		all, one := good(), good()
		for k := len(faults) - 1; k >= i; k-- {
			faults[k].spoil(&all)
		}
		f.spoil(&one)
		l = append(l, bad[T]{all, f.e}, bad[T]{one, f.e})
	}
	return l
}

// many returns the marks and the sights of a ride, which are n of both.
func many(n int) align.Ride {
	var r align.Ride
	for i := range n {
		r.Marks = append(r.Marks, align.Mark{Kind: "a", Place: 10 * i})
		r.Sights = append(r.Sights, align.Sight{Kind: "a", Count: 10 * i})
	}
	return r
}

// badRides returns rides with each error, alone, and where those that are listed later are there, too.
func badRides() []bad[align.Ride] {
	type r = align.Ride
	return spoiled(shown, []fault[r]{
		{api.ErrMany, func(x *r) { x.Marks = make([]align.Mark, 65) }},
		{api.ErrMany, func(x *r) { x.Marks = append(many(65).Marks, x.Marks...) }},
		{api.ErrKind, func(x *r) { x.Marks[0] = align.Mark{Kind: "1", Place: -1} }},
		{api.ErrKind, func(x *r) { x.Marks[0].Kind = "" }},
		{api.ErrRange, func(x *r) { x.Marks[0] = align.Mark{Kind: "a", Place: -1} }},
		{api.ErrRange, func(x *r) { x.Marks[0] = align.Mark{Kind: "a", Place: math.MinInt} }},
		{api.ErrKind, func(x *r) { x.Marks[1] = align.Mark{Kind: "a b", Place: -1} }},
		{api.ErrRange, func(x *r) { x.Marks[1] = align.Mark{Kind: "a", Place: -1} }},
		{api.ErrOrder, func(x *r) { x.Marks[1] = align.Mark{Kind: "a", Place: 100} }},
		{api.ErrOrder, func(x *r) { x.Marks[1] = align.Mark{Kind: "a", Place: 0} }},
		{api.ErrKind, func(x *r) { x.Marks[2] = align.Mark{Kind: strings.Repeat("a", 25), Place: 5} }},
		{api.ErrRange, func(x *r) { x.Marks[2] = align.Mark{Kind: "a", Place: api.MaxPlace + 1} }},
		{api.ErrRange, func(x *r) { x.Marks[2] = align.Mark{Kind: "a", Place: math.MaxInt} }},
		{api.ErrMany, func(x *r) { x.Sights = make([]align.Sight, 65) }},
		{api.ErrMany, func(x *r) { x.Sights = append(many(65).Sights, x.Sights...) }},
		{api.ErrKind, func(x *r) { x.Sights[0] = align.Sight{Kind: "_a", Count: -1} }},
		{api.ErrRange, func(x *r) { x.Sights[0] = align.Sight{Kind: "a", Count: -1} }},
		{api.ErrRange, func(x *r) { x.Sights[0] = align.Sight{Kind: "a", Count: math.MinInt} }},
		{api.ErrKind, func(x *r) { x.Sights[1] = align.Sight{Kind: "a.", Count: 5} }},
		{api.ErrRange, func(x *r) { x.Sights[1] = align.Sight{Kind: "a", Count: -95} }},
		{api.ErrOrder, func(x *r) { x.Sights[1] = align.Sight{Kind: "a", Count: 95} }},
		{api.ErrOrder, func(x *r) { x.Sights[2] = align.Sight{Kind: "a", Count: 239} }},
		{api.ErrKind, func(x *r) { x.Sights[3] = align.Sight{Kind: "\xff", Count: 0} }},
		{api.ErrRange, func(x *r) { x.Sights[3] = align.Sight{Kind: "a", Count: api.MaxPlace + 1} }},
		{api.ErrOrder, func(x *r) { x.Sights[3] = align.Sight{Kind: "a", Count: 300} }},
	})
}

// badCosts returns costs with each error.
func badCosts() []bad[align.Costs] {
	var l []bad[align.Costs]
	for _, n := range []int{math.MinInt, -1, 1001, math.MaxInt} {
		for _, c := range []align.Costs{costs(n, 0, 0), costs(0, n, 0), costs(0, 0, n), costs(1000, 1000, n), costs(n, n, n)} {
			l = append(l, bad[align.Costs]{c, api.ErrRange})
		}
	}
	return l
}

// badPairs returns lists that are no alignments of the shown ride.
func badPairs() []bad[[]align.Pair] {
	type l = []align.Pair
	return append(spoiled(least, []fault[l]{
		{api.ErrMany, func(x *l) { *x = constant(align.Pair{Sight: -1, Mark: -1}, 65) }},
		{api.ErrUnknown, func(x *l) { (*x)[0] = align.Pair{Sight: -1, Mark: 0} }},
		{api.ErrUnknown, func(x *l) { (*x)[0] = align.Pair{Sight: 0, Mark: -1} }},
		{api.ErrUnknown, func(x *l) { (*x)[0] = align.Pair{Sight: math.MinInt, Mark: math.MaxInt} }},
		{api.ErrConflict, func(x *l) { (*x)[0] = align.Pair{Sight: 0, Mark: 1} }},
		{api.ErrUnknown, func(x *l) { (*x)[1] = align.Pair{Sight: 4, Mark: 0} }},
		{api.ErrUnknown, func(x *l) { (*x)[1] = align.Pair{Sight: 0, Mark: 3} }},
		{api.ErrConflict, func(x *l) { (*x)[1] = align.Pair{Sight: 1, Mark: 0} }},
		{api.ErrOrder, func(x *l) { (*x)[1] = align.Pair{Sight: 0, Mark: 2} }},
		{api.ErrOrder, func(x *l) { (*x)[1] = align.Pair{Sight: 3, Mark: 0} }},
		{api.ErrOrder, func(x *l) { (*x)[2] = align.Pair{Sight: 0, Mark: 0} }},
		{api.ErrOrder, func(x *l) { (*x)[2] = align.Pair{Sight: 2, Mark: 1} }},
		{api.ErrUnknown, func(x *l) { *x = append((*x)[:3], align.Pair{Sight: math.MaxInt, Mark: 0}) }},
		{api.ErrOrder, func(x *l) { *x = append(*x, align.Pair{Sight: 3, Mark: 2}) }},
	}),
		bad[l]{constant(align.Pair{}, 65), api.ErrMany},
		bad[l]{constant(align.Pair{}, 64), api.ErrOrder},
		bad[l]{pairs(3, 2, 0, 0), api.ErrOrder},
		bad[l]{pairs(0, 2, 1, 1), api.ErrOrder},
		bad[l]{pairs(1, 1, 2, 1), api.ErrOrder},
		bad[l]{pairs(0, 0, 0, 2), api.ErrOrder},
	)
}

// badTables returns tables of the shown ride that have no such form.
func badTables() []bad[[][]int] {
	type l = [][]int
	return spoiled(shownTable, []fault[l]{
		{api.ErrShape, func(x *l) { *x = nil }},
		{api.ErrShape, func(x *l) { *x = (*x)[:3] }},
		{api.ErrShape, func(x *l) { *x = append(*x, []int{0, -1, 0}) }},
		{api.ErrShape, func(x *l) { (*x)[0] = (*x)[0][:2] }},
		{api.ErrShape, func(x *l) { (*x)[3] = append((*x)[3], -5) }},
		{api.ErrShape, func(x *l) { (*x)[2] = nil }},
		{api.ErrRange, func(x *l) { (*x)[0][1] = -2 }},
		{api.ErrRange, func(x *l) { (*x)[0][2] = math.MinInt }},
		{api.ErrRange, func(x *l) { (*x)[2][2] = api.MaxNumber + 1 }},
		{api.ErrRange, func(x *l) { (*x)[3][0] = math.MaxInt }},
		{api.ErrRange, func(x *l) { (*x)[3][2] = -2 }},
	})
}

// shownTable is the table of the shown ride.
func shownTable() [][]int { return [][]int{{0, -1, 0}, {-1, 5, -1}, {-1, 40, -1}, {60, -1, 27}} }

// badSlips returns slips with each error.
func badSlips() []bad[align.Slip] {
	var l []bad[align.Slip]
	for _, n := range []int{math.MinInt, -1, 10001, math.MaxInt} {
		l = append(l, bad[align.Slip]{slip(n, 0), api.ErrRange}, bad[align.Slip]{slip(0, n), api.ErrRange}, bad[align.Slip]{slip(n, n), api.ErrRange})
	}
	return append(l, bad[align.Slip]{slip(501, 10000), api.ErrRange})
}

// badRuns returns runs with each error.
func badRuns() []bad[sample.Run] {
	type r = sample.Run
	good := func() r { return run(167, 16, none, 32) }
	return append(spoiled(good, []fault[r]{
		{api.ErrName, func(x *r) { x.Name = "" }},
		{api.ErrRange, func(x *r) { x.First = -1 }},
		{api.ErrRange, func(x *r) { x.First = math.MaxInt }},
		{api.ErrMany, func(x *r) { x.Samples = constant(nan, 4097) }},
		{api.ErrForm, func(x *r) { x.Samples[0] = nan }},
		{api.ErrRange, func(x *r) { x.Samples[0] = 0.03125 }},
		{api.ErrForm, func(x *r) { x.Samples[2] = infinite }},
		{api.ErrRange, func(x *r) { x.Samples[2] = -1025 }},
		{api.ErrLarge, func(x *r) { x.First = api.MaxPlace - 2 }},
		{api.ErrSpan, func(x *r) { x.Holes = spans(2, 2) }},
		{api.ErrSpan, func(x *r) { x.Holes = spans(2, 4) }},
		{api.ErrOrder, func(x *r) { x.Holes = spans(1, 2, 2, 3) }},
		{api.ErrForm, func(x *r) { x.Holes = spans(0, 1) }},
	}), bad[r]{r{}, api.ErrName})
}

// badBounds returns numbers that are not from least to most.
func badBounds(least, most int) []bad[int] {
	var l []bad[int]
	for _, n := range []int{math.MinInt, least - 1, most + 1, math.MaxInt} {
		l = append(l, bad[int]{n, api.ErrRange})
	}
	return l
}

// badLimits returns limits with each error.
func badLimits() []bad[float32] {
	return []bad[float32]{
		{nan, api.ErrForm}, {infinite, api.ErrForm}, {-infinite, api.ErrForm},
		{1024.0625, api.ErrRange}, {0.03125, api.ErrRange}, {-0.03125, api.ErrRange}, {-0.0625, api.ErrRange}, {-1024, api.ErrRange},
	}
}
