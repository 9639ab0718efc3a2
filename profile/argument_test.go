package profile_test

import (
	"fmt"
	"math"
	"reflect"
	"strings"
	"testing"

	"versine/api"
	"versine/profile"
	"versine/sample"
)

// given is arguments of all functions.
type given struct {
	nominal, p   profile.Profile
	columns      []int
	by           [2]int
	most         int
	column, a, b int
	centre       int
	amplitude    int
	shift        int
	run          sample.Run
	probes       []int
	echoes       []profile.Echo
	reach        int
	rules        []profile.Rule
	text         string
}

// shownGiven returns arguments for which no function has an error.
func shownGiven() given {
	return given{
		nominal: nominal(), p: worn(), columns: ints(5, 20, 35), by: [2]int{2, -1}, most: 3,
		column: 7, a: 10, b: 30, centre: 15, amplitude: 10, shift: 5,
		run:    run(167, 16, none, 32, 48, 64, 80, 96, 112),
		probes: shownProbes(), echoes: shownEchoes(), reach: 1, rules: shownRules(), text: nominalText,
	}
}

// call is a function with its arguments from left to right.
type call struct {
	name      string
	arguments string
	f         func(x given) []any
}

// calls returns all functions but Parse. The letters of arguments are those of faultsOf.
func calls() []call {
	l := func(l ...any) []any { return l }
	return []call{
		{"CheckProfile", "p", func(x given) []any { return l(profile.CheckProfile(x.p)) }},
		{"Height", "pc", func(x given) []any { return l(profile.Height(x.p, x.column)) }},
		{"Area", "p", func(x given) []any { return l(profile.Area(x.p)) }},
		{"Moved", "pm", func(x given) []any { return l(profile.Moved(x.p, x.by)) }},
		{"Mirrored", "p", func(x given) []any { return l(profile.Mirrored(x.p)) }},
		{"Plain", "p", func(x given) []any { return l(profile.Plain(x.p)) }},
		{"Wear", "npl", func(x given) []any { return l(profile.Wear(x.nominal, x.p, x.columns)) }},
		{"Worst", "npl", func(x given) []any { return l(profile.Worst(x.nominal, x.p, x.columns)) }},
		{"Cost", "nplm", func(x given) []any { return l(profile.Cost(x.nominal, x.p, x.columns, x.by)) }},
		{"Fit", "nplg", func(x given) []any { return l(profile.Fit(x.nominal, x.p, x.columns, x.most)) }},
		{"Inclination", "pab", func(x given) []any { return l(profile.Inclination(x.p, x.a, x.b)) }},
		{"Conicity", "pz", func(x given) []any { return l(profile.Conicity(x.p, x.centre, x.amplitude)) }},
		{"Contact", "nps", func(x given) []any { return l(profile.Contact(x.nominal, x.p, x.shift)) }},
		{"Corrugation", "r", func(x given) []any { return l(profile.Corrugation(x.run)) }},
		{"CheckProbes", "q", func(x given) []any { return l(profile.CheckProbes(x.probes)) }},
		{"CheckRules", "u", func(x given) []any { return l(profile.CheckRules(x.rules)) }},
		{"Placed", "qe", func(x given) []any { return l(profile.Placed(x.probes, x.echoes)) }},
		{"Clusters", "qeh", func(x given) []any { return l(profile.Clusters(x.probes, x.echoes, x.reach)) }},
		{"Possible", "qehu", func(x given) []any { return l(profile.Possible(x.probes, x.echoes, x.reach, x.rules)) }},
		{"Doubtful", "qehu", func(x given) []any { return l(profile.Doubtful(x.probes, x.echoes, x.reach, x.rules)) }},
		{"Print", "p", func(x given) []any { return l(profile.Print(x.p)) }},
	}
}

// setting makes an argument have an error.
type setting struct {
	e   api.Errno
	set func(x *given)
}

// settings returns how the argument is set to each of some bad values.
func settings[T any](l []bad[T], field func(x *given) *T) []setting {
	var out []setting
	for _, b := range l {
		out = append(out, setting{b.e, func(x *given) { *field(x) = b.x }})
	}
	return out
}

// faultsOf returns how each argument has errors.
func faultsOf() map[rune][]setting {
	return map[rune][]setting{
		'n': settings(badProfiles(), func(x *given) *profile.Profile { return &x.nominal }),
		'p': settings(badProfiles(), func(x *given) *profile.Profile { return &x.p }),
		'l': settings(badColumns(), func(x *given) *[]int { return &x.columns }),
		'm': settings(badMoves(), func(x *given) *[2]int { return &x.by }),
		'g': settings(badNumbers(0, 8, api.ErrRange), func(x *given) *int { return &x.most }),
		'c': settings(badNumbers(0, 40, api.ErrSpan), func(x *given) *int { return &x.column }),
		'a': settings(badNumbers(0, 40, api.ErrSpan), func(x *given) *int { return &x.a }),
		'b': settings(badNumbers(0, 40, api.ErrSpan), func(x *given) *int { return &x.b }),
		'z': settings(badNumbers(1, 10000, api.ErrRange), func(x *given) *int { return &x.amplitude }),
		's': settings(badNumbers(-100, 100, api.ErrRange), func(x *given) *int { return &x.shift }),
		'r': settings(badRuns(), func(x *given) *sample.Run { return &x.run }),
		'q': settings(badProbes(), func(x *given) *[]int { return &x.probes }),
		'e': settings(badEchoes(), func(x *given) *[]profile.Echo { return &x.echoes }),
		'h': settings(badNumbers(0, 100, api.ErrRange), func(x *given) *int { return &x.reach }),
		'u': settings(badRules(), func(x *given) *[]profile.Rule { return &x.rules }),
	}
}

// checkError checks that a call has an error, and beside it zero values alone.
func checkError(t *testing.T, what string, results []any, e api.Errno) {
	t.Helper()
	last := len(results) - 1
	want(t, what, results[last:], list(e))
	for _, x := range results[:last] {
		if v := reflect.ValueOf(x); !same(v, reflect.Zero(v.Type())) {
			t.Errorf("%s: got %v beside an error", what, x)
		}
	}
}

// TestErrorsOfArguments checks of each function that the first argument with an error decides, whatever those behind it are.
func TestErrorsOfArguments(t *testing.T) {
	faults := faultsOf()
	for _, c := range calls() {
		results := c.f(shownGiven())
		want(t, c.name+" without an error", results[len(results)-1:], list(api.OK))
		for at, argument := range c.arguments {
			for i, f := range faults[argument] {
				x := shownGiven()
				f.set(&x)
				checkError(t, fmt.Sprintf("%v with the fault %v of %c", c.name, i, argument), c.f(x), f.e)
				for _, later := range c.arguments[at+1:] {
					for k, other := range faults[later] {
						x := shownGiven()
						other.set(&x)
						f.set(&x)
						checkError(t, fmt.Sprintf("%v with the fault %v of %c, and %v of %c", c.name, i, argument, k, later), c.f(x), f.e)
					}
				}
			}
		}
	}
}

// TestErrorsBehindArguments checks the errors that are named behind those of the arguments, and that these come first.
func TestErrorsBehindArguments(t *testing.T) {
	change := func(f func(x *given)) given {
		x := shownGiven()
		f(&x)
		return x
	}
	all := map[string]call{}
	for _, c := range calls() {
		all[c.name] = c
	}
	edge := shape(-10000, 10000, 10000, -10000)
	for i, x := range []struct {
		name string
		e    api.Errno
		set  func(x *given)
	}{
		{"Moved", api.ErrLarge, func(x *given) { x.p, x.by = edge, [2]int{1, 0} }},
		{"Moved", api.ErrLarge, func(x *given) { x.p, x.by = edge, [2]int{-1, 0} }},
		{"Moved", api.ErrLarge, func(x *given) { x.p, x.by = edge, [2]int{0, 1} }},
		{"Moved", api.ErrLarge, func(x *given) { x.p, x.by = edge, [2]int{0, -1} }},
		{"Moved", api.ErrRange, func(x *given) { x.p, x.by = edge, [2]int{1, 101} }},
		{"Moved", api.ErrRange, func(x *given) { x.p, x.by = edge, [2]int{-101, 1} }},
		{"Moved", api.ErrLarge, func(x *given) { x.p, x.by = shape(0, 0, 1, 9901), [2]int{0, 100} }},
		{"Moved", api.OK, func(x *given) { x.p, x.by = shape(0, 0, 1, 9900), [2]int{0, 100} }},
		{"Moved", api.OK, func(x *given) { x.p, x.by = shape(-9900, -9900, 1, 0), [2]int{-100, -100} }},
		{"Moved", api.ErrLarge, func(x *given) { x.p, x.by = shape(-9901, -9900, 1, 0), [2]int{-100, -100} }},
		{"Moved", api.OK, func(x *given) { x.p, x.by = edge, [2]int{} }},
		{"Mirrored", api.OK, func(x *given) { x.p = edge }},

		{"Wear", api.ErrSpan, func(x *given) { x.p = shape(6, 0, 40, 0) }},
		{"Wear", api.ErrSpan, func(x *given) { x.p = shape(0, 0, 34, 0) }},
		{"Wear", api.ErrSpan, func(x *given) { x.nominal = shape(6, 0, 40, 0) }},
		{"Wear", api.ErrSpan, func(x *given) { x.nominal = shape(0, 0, 34, 0) }},
		{"Wear", api.OK, func(x *given) { x.nominal, x.p = shape(5, 0, 40, 0), shape(0, 0, 35, 0) }},
		{"Worst", api.ErrSpan, func(x *given) { x.p = shape(6, 0, 40, 0) }},
		{"Worst", api.ErrSpan, func(x *given) { x.nominal = shape(0, 0, 34, 0) }},

		{"Cost", api.OK, func(x *given) { x.p, x.by = shape(3, 0, 33, 0), [2]int{2, 0} }},
		{"Cost", api.ErrRule, func(x *given) { x.p, x.by = shape(3, 0, 33, 0), [2]int{1, 0} }},
		{"Cost", api.ErrRule, func(x *given) { x.p, x.by = shape(3, 0, 33, 0), [2]int{3, 0} }},
		{"Cost", api.ErrRule, func(x *given) { x.p, x.by = shape(50, 0, 60, 0), [2]int{0, 0} }},
		{"Cost", api.ErrRange, func(x *given) { x.p, x.by = shape(50, 0, 60, 0), [2]int{0, 101} }},
		{"Cost", api.ErrOrder, func(x *given) { x.p, x.columns = shape(50, 0, 60, 0), ints(7, 6) }},
		{"Cost", api.ErrSpan, func(x *given) { x.nominal = shape(6, 0, 40, 0) }},
		{"Cost", api.ErrRule, func(x *given) { x.p, x.by = edge, [2]int{1, 0} }},
		{"Cost", api.ErrRule, func(x *given) { x.p, x.by = edge, [2]int{0, 1} }},
		{"Cost", api.ErrRule, func(x *given) { x.p, x.by = edge, [2]int{-1, 0} }},
		{"Cost", api.ErrRule, func(x *given) { x.p, x.by = edge, [2]int{0, -1} }},
		{"Cost", api.OK, func(x *given) { x.p, x.by = edge, [2]int{} }},

		{"Fit", api.OK, func(x *given) { x.p, x.most = shape(3, 0, 33, 0), 2 }},
		{"Fit", api.ErrInfeasible, func(x *given) { x.p, x.most = shape(3, 0, 33, 0), 1 }},
		{"Fit", api.OK, func(x *given) { x.p, x.most = shape(13, 0, 43, 0), 8 }},
		{"Fit", api.ErrInfeasible, func(x *given) { x.p, x.most = shape(13, 0, 43, 0), 7 }},
		{"Fit", api.ErrInfeasible, func(x *given) { x.p, x.most = shape(5, 0, 34, 0), 8 }},
		{"Fit", api.ErrInfeasible, func(x *given) { x.p, x.most = shape(5, 0, 34, 0), 0 }},
		{"Fit", api.ErrRange, func(x *given) { x.p, x.most = shape(5, 0, 34, 0), 9 }},
		{"Fit", api.ErrSpan, func(x *given) { x.nominal, x.p = shape(0, 0, 34, 0), shape(50, 0, 60, 0) }},
		{"Fit", api.OK, func(x *given) { x.p, x.most = edge, 8 }},

		{"Inclination", api.ErrOrder, func(x *given) { x.a, x.b = 7, 7 }},
		{"Inclination", api.ErrOrder, func(x *given) { x.a, x.b = 8, 7 }},
		{"Inclination", api.ErrOrder, func(x *given) { x.a, x.b = 40, 0 }},
		{"Inclination", api.OK, func(x *given) { x.a, x.b = 0, 40 }},
		{"Inclination", api.ErrSpan, func(x *given) { x.a, x.b = 41, 40 }},
		{"Inclination", api.ErrSpan, func(x *given) { x.a, x.b = 5, -1 }},

		{"Conicity", api.OK, func(x *given) { x.centre, x.amplitude = 20, 20 }},
		{"Conicity", api.ErrSpan, func(x *given) { x.centre, x.amplitude = 20, 21 }},
		{"Conicity", api.ErrSpan, func(x *given) { x.centre, x.amplitude = 19, 20 }},
		{"Conicity", api.ErrSpan, func(x *given) { x.centre, x.amplitude = 21, 20 }},
		{"Conicity", api.ErrSpan, func(x *given) { x.centre, x.amplitude = math.MaxInt, 1 }},
		{"Conicity", api.ErrSpan, func(x *given) { x.centre, x.amplitude = math.MinInt, 10000 }},
		{"Conicity", api.ErrRange, func(x *given) { x.centre, x.amplitude = math.MaxInt, 0 }},
		{"Conicity", api.ErrRange, func(x *given) { x.centre, x.amplitude = 20, math.MaxInt }},
		{"Conicity", api.ErrShort, func(x *given) { x.p, x.centre = nil, 0 }},
		{"Conicity", api.OK, func(x *given) { x.p, x.centre, x.amplitude = edge, 0, 10000 }},
		{"Conicity", api.ErrRange, func(x *given) { x.p, x.centre, x.amplitude = edge, 0, 10001 }},

		{"Contact", api.ErrNone, func(x *given) { x.p = shape(46, 0, 60, 0); x.shift = -5 }},
		{"Contact", api.OK, func(x *given) { x.p = shape(45, 0, 60, 0); x.shift = -5 }},
		{"Contact", api.ErrNone, func(x *given) { x.p = shape(-20, 0, -11, 0); x.shift = 10 }},
		{"Contact", api.OK, func(x *given) { x.p = shape(-20, 0, -10, 0); x.shift = 10 }},
		{"Contact", api.ErrRange, func(x *given) { x.p = shape(50, 0, 60, 0); x.shift = 101 }},
		{"Contact", api.OK, func(x *given) { x.p = edge; x.shift = 100 }},
		{"Contact", api.OK, func(x *given) { x.p = edge; x.shift = -100 }},
	} {
		results := all[x.name].f(change(x.set))
		if x.e != api.OK {
			checkError(t, fmt.Sprintf("%v %v", x.name, i), results, x.e)
			continue
		}
		want(t, fmt.Sprintf("%v %v", x.name, i), results[len(results)-1:], list(api.OK))
	}
}

// TestGreatestArguments checks that the greatest and the least arguments are permitted.
func TestGreatestArguments(t *testing.T) {
	edge := shape(-10000, 10000, 10000, -10000)
	for i, p := range []profile.Profile{edge, long(24), long(2), shape(-10000, -10000, -9999, 10000), shape(9999, 0, 10000, 0), shape(-10000, 0, 0, 0, 10000, 0)} {
		want(t, "CheckProfile", list(i, profile.CheckProfile(p)), list(i, api.OK))
	}
	h, e := profile.Height(edge, -10000)
	want(t, "Height", list(h, e), list(10000, api.OK))
	h, e = profile.Height(edge, 10000)
	want(t, "Height", list(h, e), list(-10000, api.OK))
	h, e = profile.Height(edge, 123)
	want(t, "Height", list(h, e), list(-123, api.OK))
	a, e := profile.Area(shape(-10000, 10000, 10000, 10000))
	want(t, "Area", list(a, e), list(400000000, api.OK))
	a, e = profile.Area(shape(-10000, -10000, 10000, -10000))
	want(t, "Area", list(a, e), list(-400000000, api.OK))
	m, e := profile.Moved(shape(-9900, 0, 0, 9900), [2]int{-100, 100})
	want(t, "Moved", list(m, e), list(shape(-10000, 100, -100, 10000), api.OK))
	m, e = profile.Mirrored(edge)
	want(t, "Mirrored", list(m, e), list(shape(-10000, -10000, 10000, 10000), api.OK))
	high, low := shape(-10000, 10000, 10000, 10000), shape(-10000, -10000, 10000, -10000)
	w, e := profile.Wear(high, low, count(9937, 64))
	want(t, "Wear", list(w, e), list(constant(20000, 64), api.OK))
	c, e := profile.Cost(high, low, count(-10000, 64), [2]int{})
	want(t, "Cost", list(c, e), list(64*20000*20000, api.OK))
	by, c, e := profile.Fit(high, low, count(-10000, 64), 8)
	want(t, "Fit", list(by, c, e), list([2]int{0, 8}, 64*19992*19992, api.OK))
	c, e = profile.Cost(nominal(), movedBy(nominal(), -100, 100), ints(0, 40), [2]int{100, -100})
	want(t, "Cost", list(c, e), list(0, api.OK))
	r, e := profile.Conicity(edge, 0, 10000)
	want(t, "Conicity", list(r, e), list(ratio(-1, 1), api.OK))
	r, e = profile.Inclination(edge, -10000, 10000)
	want(t, "Inclination", list(r, e), list(ratio(-1, 1), api.OK))
	r, e = profile.Inclination(shape(0, -10000, 1, 10000), 0, 1)
	want(t, "Inclination", list(r, e), list(ratio(20000, 1), api.OK))
	column, gap, e := profile.Contact(low, high, 100)
	want(t, "Contact", list(column, gap, e), list(-9900, 20000, api.OK))
	column, gap, e = profile.Contact(high, low, -100)
	want(t, "Contact", list(column, gap, e), list(-10000, -20000, api.OK))
	sums, n, e := profile.Corrugation(run(api.MaxPlace-4096, constant(-16384, 4096)...))
	want(t, "Corrugation", list(sums, n, e), list([3]int{1 << 42, 0, 0}, 1024, api.OK))
	for i, l := range [][]int{ints(0), ints(-3, 3, -3, 3, -3), ints(3)} {
		want(t, "CheckProbes", list(i, profile.CheckProbes(l)), list(i, api.OK))
	}
	l, e := profile.Placed(ints(-3, 3), echoes(0, 0, 1000, 1, api.MaxPlace, 1000, 1, 0, 1))
	want(t, "Placed", list(l, e), list([]profile.Point{point(-3000, 1000), point(api.MaxPlace+3000, 1000), point(3, 1)}, api.OK))
	clusters, e := profile.Clusters(ints(0, 0, 0, 0, 0), constant(profile.Echo{Probe: 4, Delay: 1}, 64), 100)
	want(t, "Clusters", list(clusters, e), list([][]int{count(0, 64)}, api.OK))
	for i, rules := range [][]profile.Rule{nil, manyRules(8), {rule(strings.Repeat("a", 24), 0, 0, 0, 0, 0, 0, 0, 0), rule("A", 100000, 100000, 100000, 100000, 100000, 100000, 100000, 100000)}} {
		want(t, "CheckRules", list(i, profile.CheckRules(rules)), list(i, api.OK))
	}
}
