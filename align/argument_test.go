package align_test

import (
	"fmt"
	"reflect"
	"testing"

	"versine/align"
	"versine/api"
	"versine/sample"
)

// given is arguments of all functions.
type given struct {
	ride        align.Ride
	costs       align.Costs
	pairs       []align.Pair
	table       [][]int
	slip        align.Slip
	count       int
	run, other  sample.Run
	place, turn int
	shift       int
	most, least int
	by          int
	limit       float32
	text        string
}

// shownGiven returns arguments for which no function has an error.
func shownGiven() given {
	return given{
		ride: shown(), costs: shownCosts(), pairs: least(), table: shownTable(), slip: slip(20, 3), count: 300,
		run: run(167, 16, none, 32), other: run(166, 16, 48, 64, 0), place: 500, turn: 400,
		shift: 1, most: 3, least: 1, by: -12, limit: 1, text: "mark a 1\nsight b 2\n",
	}
}

// call is a function with its arguments from left to right.
type call struct {
	name      string
	arguments string
	f         func(x given) []any
}

// calls returns all functions but those that check one thing alone, and Parse. The letters of arguments are those of faultsOf.
func calls() []call {
	l := func(l ...any) []any { return l }
	return []call{
		{"CheckPairs", "rl", func(x given) []any { return l(align.CheckPairs(x.ride, x.pairs)) }},
		{"Aligned", "rc", func(x given) []any { return l(align.Aligned(x.ride, x.costs)) }},
		{"Cost", "rcl", func(x given) []any { return l(align.Cost(x.ride, x.costs, x.pairs)) }},
		{"Table", "rc", func(x given) []any { return l(align.Table(x.ride, x.costs)) }},
		{"CheckTable", "rct", func(x given) []any { return l(align.CheckTable(x.ride, x.costs, x.table)) }},
		{"Sure", "rc", func(x given) []any { return l(align.Sure(x.ride, x.costs)) }},
		{"Within", "rlsn", func(x given) []any { return l(align.Within(x.ride, x.pairs, x.slip, x.count)) }},
		{"Conflicts", "rls", func(x given) []any { return l(align.Conflicts(x.ride, x.pairs, x.slip)) }},
		{"Guess", "rln", func(x given) []any { return l(align.Guess(x.ride, x.pairs, x.count)) }},
		{"Registered", "rla", func(x given) []any { return l(align.Registered(x.ride, x.pairs, x.run)) }},
		{"Turned", "rpk", func(x given) []any { return l(align.Turned(x.ride, x.place, x.turn)) }},
		{"TurnedPairs", "rl", func(x given) []any { return l(align.TurnedPairs(x.ride, x.pairs)) }},
		{"Difference", "abhe", func(x given) []any { return l(align.Difference(x.run, x.other, x.shift, x.least)) }},
		{"Matched", "abme", func(x given) []any { return l(align.Matched(x.run, x.other, x.most, x.least)) }},
		{"Moved", "ay", func(x given) []any { return l(align.Moved(x.run, x.by)) }},
		{"Apart", "abf", func(x given) []any { return l(align.Apart(x.run, x.other, x.limit)) }},
		{"Print", "r", func(x given) []any { return l(align.Print(x.ride)) }},
	}
}

// setting makes an argument have an error.
type setting struct {
	e   api.Errno
	set func(x *given)
}

// settings returns how the argument is set to each of some bad values.
func settings[T any](l []bad[T], field func(x *given) *T) []setting {
	var out []setting
	for _, b := range l {
		out = append(out, setting{b.e, func(x *given) { *field(x) = b.x }})
	}
	return out
}

// faultsOf returns how each argument has errors.
func faultsOf() map[rune][]setting {
	return map[rune][]setting{
		'r': settings(badRides(), func(x *given) *align.Ride { return &x.ride }),
		'c': settings(badCosts(), func(x *given) *align.Costs { return &x.costs }),
		'l': settings(badPairs(), func(x *given) *[]align.Pair { return &x.pairs }),
		't': settings(badTables(), func(x *given) *[][]int { return &x.table }),
		's': settings(badSlips(), func(x *given) *align.Slip { return &x.slip }),
		'n': settings(badBounds(0, api.MaxPlace), func(x *given) *int { return &x.count }),
		'a': settings(badRuns(), func(x *given) *sample.Run { return &x.run }),
		'b': settings(badRuns(), func(x *given) *sample.Run { return &x.other }),
		'p': settings(badBounds(0, api.MaxPlace), func(x *given) *int { return &x.place }),
		'k': settings(badBounds(0, api.MaxPlace), func(x *given) *int { return &x.turn }),
		'h': settings(badBounds(-256, 256), func(x *given) *int { return &x.shift }),
		'm': settings(badBounds(0, 256), func(x *given) *int { return &x.most }),
		'e': settings(badBounds(1, 4096), func(x *given) *int { return &x.least }),
		'y': settings(badBounds(-api.MaxPlace, api.MaxPlace), func(x *given) *int { return &x.by }),
		'f': settings(badLimits(), func(x *given) *float32 { return &x.limit }),
	}
}

// checkError checks that a call has an error, and beside it zero values alone.
func checkError(t *testing.T, what string, results []any, e api.Errno) {
	t.Helper()
	last := len(results) - 1
	want(t, what, results[last:], list(e))
	for _, x := range results[:last] {
		if v := reflect.ValueOf(x); !same(v, reflect.Zero(v.Type())) {
			t.Errorf("%s: got %v beside an error", what, x)
		}
	}
}

// TestErrorsOfArguments checks of each function that the first argument with an error decides, whatever those behind it are.
func TestErrorsOfArguments(t *testing.T) {
	faults := faultsOf()
	for _, c := range calls() {
		results := c.f(shownGiven())
		want(t, c.name+" without an error", results[len(results)-1:], list(api.OK))
		for at, argument := range c.arguments {
			for i, f := range faults[argument] {
				x := shownGiven()
				f.set(&x)
				checkError(t, fmt.Sprintf("%v with the fault %v of %c", c.name, i, argument), c.f(x), f.e)
				for _, later := range c.arguments[at+1:] {
					for k, other := range faults[later] {
						x := shownGiven()
						other.set(&x)
						f.set(&x)
						checkError(t, fmt.Sprintf("%v with the fault %v of %c, and %v of %c", c.name, i, argument, k, later), c.f(x), f.e)
					}
				}
			}
		}
	}
}

// TestChecks checks the functions that check one thing alone.
func TestChecks(t *testing.T) {
	for i, b := range badRides() {
		want(t, "CheckRide", list(i, align.CheckRide(b.x)), list(i, b.e))
	}
	for i, b := range badCosts() {
		want(t, "CheckCosts", list(i, align.CheckCosts(b.x)), list(i, b.e))
	}
	for i, b := range badPairs() {
		want(t, "CheckPairs", list(i, align.CheckPairs(shown(), b.x)), list(i, b.e))
	}
	full := many(64)
	var diagonal []align.Pair
	for i := range 64 {
		diagonal = append(diagonal, align.Pair{Sight: i, Mark: i})
	}
	last := ride("a 0 b 100000000", "a 0 b 100000000")
	for i, r := range []align.Ride{{}, shown(), full, last, {Marks: full.Marks}, {Sights: full.Sights}} {
		want(t, "CheckRide", list(i, align.CheckRide(r), align.CheckPairs(r, nil)), list(i, api.OK, api.OK))
	}
	want(t, "CheckPairs", list(align.CheckPairs(shown(), least()), align.CheckPairs(full, diagonal), align.CheckPairs(full, pairs(63, 0)), align.CheckPairs(full, pairs(0, 63))), list(api.OK, api.OK, api.OK, api.OK))
	want(t, "CheckPairs of too many", list(align.CheckPairs(full, append(diagonal, diagonal[0]))), list(api.ErrMany))
	want(t, "CheckPairs of a sight too many", list(align.CheckPairs(full, append(diagonal[:63:63], align.Pair{Sight: 64, Mark: 63}))), list(api.ErrUnknown))
	want(t, "CheckPairs without marks", list(align.CheckPairs(align.Ride{Sights: full.Sights}, pairs(0, 0))), list(api.ErrUnknown))
	want(t, "CheckPairs without sights", list(align.CheckPairs(align.Ride{Marks: full.Marks}, pairs(0, 0))), list(api.ErrUnknown))
	want(t, "CheckCosts", list(align.CheckCosts(costs(0, 0, 0)), align.CheckCosts(costs(1000, 1000, 1000))), list(api.OK, api.OK))
}

// TestGreatestArguments checks that the greatest and the least arguments are permitted.
func TestGreatestArguments(t *testing.T) {
	ends := ride("a 0 a 100000000", "a 0 a 100000000")
	whole := pairs(0, 0, 1, 1)
	w, e := align.Within(ends, whole, slip(500, 10000), 100000000)
	want(t, "Within", list(w, e), list(places(99990000, 100010000), api.OK))
	c, e := align.Conflicts(ends, whole, slip(500, 10000))
	want(t, "Conflicts", list(c, e), list([][2]int(nil), api.OK))
	n, e := align.Guess(ends, whole, 100000000)
	want(t, "Guess", list(n, e), list(100000000, api.OK))
	n, e = align.Guess(ends, whole, 0)
	want(t, "Guess", list(n, e), list(0, api.OK))
	turned, e := align.Turned(ends, 100000000, 100000000)
	want(t, "Turned", list(turned, e), list(ends, api.OK))
	nothing, e := align.Turned(align.Ride{}, 0, 0)
	want(t, "Turned", list(nothing, e), list(align.Ride{}, api.OK))
	long := run(0, make([]int, 4096)...)
	x, e := align.Difference(long, long, 256, 3840)
	want(t, "Difference", list(x, e), list(api.Ratio{Num: 0, Den: 1}, api.OK))
	x, e = align.Difference(long, long, -256, 3841)
	want(t, "Difference", list(x, e), list(api.Ratio{}, api.ErrNone))
	s, x, e := align.Matched(long, long, 256, 4096)
	want(t, "Matched", list(s, x, e), list(0, api.Ratio{Num: 0, Den: 1}, api.OK))
	s, x, e = align.Matched(long, long, 0, 1)
	want(t, "Matched", list(s, x, e), list(0, api.Ratio{Num: 0, Den: 1}, api.OK))
	m, e := align.Moved(sample.Run{Name: "r"}, 100000000)
	want(t, "Moved", list(m, e), list(sample.Run{Name: "r", First: 100000000}, api.OK))
	m, e = align.Moved(sample.Run{Name: "r", First: 100000000}, -100000000)
	want(t, "Moved", list(m, e), list(sample.Run{Name: "r"}, api.OK))
	for _, limit := range []float32{0, minusZero, 1024} {
		l, e := align.Apart(long, long, limit)
		want(t, "Apart", list(l, e), list([]api.Span(nil), api.OK))
	}
}
