package plan_test

import (
	"fmt"
	"reflect"
	"testing"

	"versine/api"
	"versine/plan"
)

// given is arguments of all functions.
type given struct {
	office  plan.Office
	plan    []int
	prices  []api.Ratio
	levels  []int
	targets []int
	lifts   []int // of CheckLifts
	free    []int // of Lifted
	filled  []int // of Ballast
	rules   plan.Rules
	rate    api.Ratio
	rail    plan.Rail
	growth  int
	band    api.Interval
	length  int
	heat    int
	rails   []plan.Rail
	jobs    []plan.Job
	heats   []int
	days    []int
	text    string
}

// shownGiven returns arguments for which no function has an error.
func shownGiven() given {
	return given{
		office: shown(), plan: ints(1, -1, 0), prices: shownPrices(),
		levels: ints(0, 0, 0), targets: ints(4, 4, 4), lifts: ints(2, 3, 2), free: ints(2, 12, 0), filled: ints(2, 3), rules: rules(3, 2), rate: ratio(1, 2),
		rail: shownRail(), growth: 50000, band: shownBand(), length: 1000, heat: 150, rails: shownRails(),
		jobs: site(), heats: shownHeats(), days: ints(0, 2, 3), text: shownText,
	}
}

// call is a function with its arguments in the order of their errors.
type call struct {
	name      string
	arguments string
	f         func(x given) []any
}

// calls returns all functions but Parse. The letters of arguments are those of flawsOf.
func calls() []call {
	l := func(l ...any) []any { return l }
	return []call{
		{"CheckOffice", "o", func(x given) []any { return l(plan.CheckOffice(x.office)) }},
		{"CheckPlan", "op", func(x given) []any { return l(plan.CheckPlan(x.office, x.plan)) }},
		{"Plan", "o", func(x given) []any { return l(plan.Plan(x.office)) }},
		{"Bound", "oc", func(x given) []any { return l(plan.Bound(x.office, x.prices)) }},
		{"Late", "o", func(x given) []any { return l(plan.Late(x.office)) }},
		{"Left", "op", func(x given) []any { return l(plan.Left(x.office, x.plan)) }},
		{"Last", "op", func(x given) []any { return l(plan.Last(x.office, x.plan)) }},
		{"CheckLifts", "lgru", func(x given) []any { return l(plan.CheckLifts(x.levels, x.targets, x.lifts, x.rules)) }},
		{"Design", "lgr", func(x given) []any { return l(plan.Design(x.levels, x.targets, x.rules)) }},
		{"Lifted", "lf", func(x given) []any { return l(plan.Lifted(x.levels, x.free)) }},
		{"Ballast", "ba", func(x given) []any { return l(plan.Ballast(x.filled, x.rate)) }},
		{"CheckRail", "i", func(x given) []any { return l(plan.CheckRail(x.rail)) }},
		{"Neutral", "iw", func(x given) []any { return l(plan.Neutral(x.rail, x.growth)) }},
		{"InBand", "iwn", func(x given) []any { return l(plan.InBand(x.rail, x.growth, x.band)) }},
		{"Pull", "xywn", func(x given) []any { return l(plan.Pull(x.length, x.heat, x.growth, x.band)) }},
		{"Joined", "jw", func(x given) []any { return l(plan.Joined(x.rails, x.growth)) }},
		{"CheckJobs", "k", func(x given) []any { return l(plan.CheckJobs(x.jobs)) }},
		{"CheckSequence", "khnd", func(x given) []any { return l(plan.CheckSequence(x.jobs, x.heats, x.band, x.days)) }},
		{"Sequenced", "khn", func(x given) []any { return l(plan.Sequenced(x.jobs, x.heats, x.band)) }},
		{"Chain", "k", func(x given) []any { return l(plan.Chain(x.jobs)) }},
		{"Print", "o", func(x given) []any { return l(plan.Print(x.office)) }},
	}
}

// setting makes an argument have an error.
type setting struct {
	e   api.Errno
	set func(x *given)
}

// settings returns how the argument is set to each of some bad values.
func settings[T any](l []bad[T], field func(x *given) *T) []setting {
	var out []setting
	for _, b := range l {
		out = append(out, setting{b.e, func(x *given) { *field(x) = b.x }})
	}
	return out
}

// flawsOf returns how each argument has errors.
func flawsOf() map[rune][]setting {
	return map[rune][]setting{
		'o': settings(badOffices(), func(x *given) *plan.Office { return &x.office }),
		'p': settings(badPlans(), func(x *given) *[]int { return &x.plan }),
		'c': settings(badPrices(), func(x *given) *[]api.Ratio { return &x.prices }),
		'l': settings(badLevels(), func(x *given) *[]int { return &x.levels }),
		'g': settings(badTargets(), func(x *given) *[]int { return &x.targets }),
		'r': settings(badRules(), func(x *given) *plan.Rules { return &x.rules }),
		'u': settings(badLifts(), func(x *given) *[]int { return &x.lifts }),
		'f': settings(badFreeLifts(), func(x *given) *[]int { return &x.free }),
		'b': settings(badLiftLists(), func(x *given) *[]int { return &x.filled }),
		'a': settings(badRates(), func(x *given) *api.Ratio { return &x.rate }),
		'i': settings(badRails(), func(x *given) *plan.Rail { return &x.rail }),
		'w': settings(badNumbers(1, 1000000), func(x *given) *int { return &x.growth }),
		'n': settings(badBands(), func(x *given) *api.Interval { return &x.band }),
		'x': settings(badNumbers(1, 1000000), func(x *given) *int { return &x.length }),
		'y': settings(badNumbers(-1000, 1000), func(x *given) *int { return &x.heat }),
		'j': settings(badRailLists(), func(x *given) *[]plan.Rail { return &x.rails }),
		'k': settings(badJobs(), func(x *given) *[]plan.Job { return &x.jobs }),
		'h': settings(badHeats(), func(x *given) *[]int { return &x.heats }),
		'd': settings(badDays(), func(x *given) *[]int { return &x.days }),
	}
}

// checkError checks that a call has an error, and beside it zero values alone.
func checkError(t *testing.T, what string, results []any, e api.Errno) {
	t.Helper()
	last := len(results) - 1
	want(t, what, results[last:], list(e))
	for _, x := range results[:last] {
		if v := reflect.ValueOf(x); !same(v, reflect.Zero(v.Type())) {
			t.Errorf("%s: got %v beside an error", what, x)
		}
	}
}

// TestErrorsOfArguments checks of each function that the first argument with an error decides, whatever those behind it are.
func TestErrorsOfArguments(t *testing.T) {
	flaws := flawsOf()
	for _, c := range calls() {
		results := c.f(shownGiven())
		want(t, c.name+" without an error", results[len(results)-1:], list(api.OK))
		for at, argument := range c.arguments {
			for i, f := range flaws[argument] {
				x := shownGiven()
				f.set(&x)
				checkError(t, fmt.Sprintf("%v with the flaw %v of %c", c.name, i, argument), c.f(x), f.e)
				for _, later := range c.arguments[at+1:] {
					for k, other := range flaws[later] {
						x := shownGiven()
						other.set(&x)
						f.set(&x)
						checkError(t, fmt.Sprintf("%v with the flaw %v of %c, and %v of %c", c.name, i, argument, k, later), c.f(x), f.e)
					}
				}
			}
		}
	}
}

// TestErrorsBehindArguments checks the errors that are named behind those of the arguments, and that these come first.
func TestErrorsBehindArguments(t *testing.T) {
	all := map[string]call{}
	for _, c := range calls() {
		all[c.name] = c
	}
	for i, x := range []struct {
		name string
		e    api.Errno
		set  func(x *given)
	}{
		{"Last", api.ErrNone, func(x *given) { x.plan = ints(-1, -1, -1) }},
		{"Last", api.ErrNone, func(x *given) { x.office, x.plan = plan.Office{}, nil }},
		{"Last", api.ErrShape, func(x *given) { x.plan = ints(-1, -1) }},
		{"Last", api.OK, func(x *given) { x.plan = ints(-1, -1, 0) }},
		{"Bound", api.ErrLarge, func(x *given) { x.prices = []api.Ratio{ratio(1, 13), ratio(1, 1)} }},
		{"Bound", api.ErrLarge, func(x *given) { x.prices = []api.Ratio{ratio(1, 1), ratio(1, 13)} }},
		{"Bound", api.ErrLarge, func(x *given) { x.prices = []api.Ratio{ratio(1, 1), ratio(999999998, 999999999)} }},
		{"Bound", api.ErrRange, func(x *given) { x.prices = []api.Ratio{ratio(1, 13), ratio(-1, 1)} }},
		{"Bound", api.OK, func(x *given) { x.prices = []api.Ratio{ratio(999999999, 11), ratio(1, 12)} }},
		{"Ballast", api.OK, func(x *given) { x.filled, x.rate = ints(1), ratio(999999999, 1) }},
		{"Ballast", api.ErrLarge, func(x *given) { x.filled, x.rate = ints(2), ratio(999999999, 1) }},
		{"Ballast", api.ErrLarge, func(x *given) { x.filled, x.rate = constant(12, 24), ratio(999999999, 1) }},
		{"Ballast", api.OK, func(x *given) { x.filled, x.rate = ints(2), ratio(999999999, 2) }},
		{"Ballast", api.OK, func(x *given) { x.filled, x.rate = ints(10), ratio(999999989, 10) }},
		{"Ballast", api.ErrLarge, func(x *given) { x.filled, x.rate = ints(3), ratio(666666667, 2) }}, // 1000000000 and a half
		{"Ballast", api.ErrLarge, func(x *given) { x.filled, x.rate = ints(7), ratio(714285714, 5) }}, // 999999999 and three fifths, rounded up
		{"Ballast", api.OK, func(x *given) { x.filled, x.rate = ints(7), ratio(714285713, 5) }},
		{"Ballast", api.ErrRange, func(x *given) { x.filled, x.rate = ints(2, 13), ratio(999999999, 1) }},
		{"Neutral", api.OK, func(x *given) { x.rail, x.growth = rail(1000, 0, 1000), 1000000 }},
		{"Neutral", api.OK, func(x *given) { x.rail, x.growth = rail(1000000, 1000, 1000000), 1000000 }},
		{"Neutral", api.OK, func(x *given) { x.rail, x.growth = rail(999999, 1000, 3), 1 }},
		{"Neutral", api.ErrLarge, func(x *given) { x.rail, x.growth = rail(999999, 1000, 1000), 1000000 }},
		{"Neutral", api.ErrRange, func(x *given) { x.rail, x.growth = rail(999999, 1000, 1000), 1000001 }},
		{"Joined", api.ErrLarge, func(x *given) { x.rails, x.growth = []plan.Rail{rail(999999, 1000, 1000)}, 1000000 }},
		{"Joined", api.ErrLarge, func(x *given) { x.rails = []plan.Rail{rail(999999, -1000, 0), rail(1000000, -999, 0)} }},
		{"Joined", api.ErrRange, func(x *given) { x.rails, x.growth = []plan.Rail{rail(999999, 1000, 1000)}, 0 }},
		{"Joined", api.OK, func(x *given) { x.rails, x.growth = constant(rail(1000000, 1000, 1000000), 8), 1000000 }},
		{"Pull", api.ErrBand, func(x *given) { x.heat = 261 }},
		{"Pull", api.OK, func(x *given) { x.heat = 260 }},
		{"Pull", api.ErrBand, func(x *given) { x.heat, x.length = 261, 7 }},
		{"Pull", api.ErrOrder, func(x *given) { x.heat, x.band = 261, interval(260, 259) }},
		{"Pull", api.ErrInfeasible, func(x *given) { x.length = 900 }},
		{"Pull", api.ErrInfeasible, func(x *given) { x.growth = 1 }},
		{"Pull", api.ErrInfeasible, func(x *given) { x.growth, x.length = 89, 100 }},
		{"Pull", api.OK, func(x *given) { x.growth, x.length = 90, 100 }},
		{"Sequenced", api.ErrInfeasible, func(x *given) { x.heats = x.heats[:3] }},
		{"Sequenced", api.ErrInfeasible, func(x *given) { x.band = interval(0, 199) }},
		{"Sequenced", api.ErrOrder, func(x *given) { x.heats, x.band = x.heats[:3], interval(5, 4) }},
		{"Sequenced", api.OK, func(x *given) { x.jobs, x.heats, x.band = nil, ints(1000), interval(-1000, -1000) }},
		{"CheckSequence", api.OK, func(x *given) { x.jobs, x.days = nil, nil }},
		{"CheckSequence", api.ErrShape, func(x *given) { x.jobs = nil }},
		{"Chain", api.ErrNone, func(x *given) { x.jobs = nil }},
		{"CheckJobs", api.OK, func(x *given) { x.jobs = nil }},
	} {
		arguments := shownGiven()
		x.set(&arguments)
		results := all[x.name].f(arguments)
		if x.e != api.OK {
			checkError(t, fmt.Sprintf("%v %v", x.name, i), results, x.e)
			continue
		}
		want(t, fmt.Sprintf("%v %v", x.name, i), results[len(results)-1:], list(api.OK))
	}
}
