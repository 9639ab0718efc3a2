package quality_test

import (
	"fmt"
	"reflect"
	"testing"

	"versine/api"
	"versine/quality"
	"versine/sample"
)

// given is arguments of all functions.
type given struct {
	a, b     quality.Moments
	run      sample.Run
	places   api.Span
	size     int
	variance int // the limit of Above
	section  quality.Section
	m        quality.Measurement
	act      quality.Act
	period   int
	day      int
	limit    int
	number   int // of an intervention
	wrong    int
	line     quality.Line
	sections []quality.Section
	text     string
}

// shownGiven returns arguments for which no function has an error.
func shownGiven() given {
	return given{
		a: moments(2, 10, 50), b: moments(3, -4, 80),
		run: shownRun(), places: span(101, 104), size: 2, variance: 60,
		section: north(), m: measurement(60, 80), act: act(60, "grinding"),
		period: 1, day: 60, limit: 90, number: 0, wrong: 1, line: line(30, 119, 2, 3, 4),
		sections: shownSections(), text: shownText,
	}
}

// call is a function with its arguments from left to right.
type call struct {
	name      string
	arguments string
	f         func(x given) []any
}

// calls returns all functions but Parse. The letters of arguments are those of flawsOf.
func calls() []call {
	l := func(l ...any) []any { return l }
	return []call{
		{"CheckMoments", "a", func(x given) []any { return l(quality.CheckMoments(x.a)) }},
		{"MomentsOf", "rp", func(x given) []any { return l(quality.MomentsOf(x.run, x.places)) }},
		{"Added", "ab", func(x given) []any { return l(quality.Added(x.a, x.b)) }},
		{"Variance", "a", func(x given) []any { return l(quality.Variance(x.a)) }},
		{"Indices", "rs", func(x given) []any { return l(quality.Indices(x.run, x.size)) }},
		{"Worst", "rs", func(x given) []any { return l(quality.Worst(x.run, x.size)) }},
		{"Above", "rsv", func(x given) []any { return l(quality.Above(x.run, x.size, x.variance)) }},
		{"CheckSection", "c", func(x given) []any { return l(quality.CheckSection(x.section)) }},
		{"Measured", "cm", func(x given) []any { return l(quality.Measured(x.section, x.m)) }},
		{"Done", "ct", func(x given) []any { return l(quality.Done(x.section, x.act)) }},
		{"Periods", "c", func(x given) []any { return l(quality.Periods(x.section)) }},
		{"Fitted", "ck", func(x given) []any { return l(quality.Fitted(x.section, x.period)) }},
		{"Predicted", "ckd", func(x given) []any { return l(quality.Predicted(x.section, x.period, x.day)) }},
		{"Reached", "ckl", func(x given) []any { return l(quality.Reached(x.section, x.period, x.limit)) }},
		{"Left", "ci", func(x given) []any { return l(quality.Left(x.section, x.number)) }},
		{"Fits", "ckwg", func(x given) []any { return l(quality.Fits(x.section, x.period, x.wrong, x.line)) }},
		{"Range", "ckwd", func(x given) []any { return l(quality.Range(x.section, x.period, x.wrong, x.day)) }},
		{"Earliest", "ckwl", func(x given) []any { return l(quality.Earliest(x.section, x.period, x.wrong, x.limit)) }},
		{"Latest", "ckwl", func(x given) []any { return l(quality.Latest(x.section, x.period, x.wrong, x.limit)) }},
		{"Ranked", "nl", func(x given) []any { return l(quality.Ranked(x.sections, x.limit)) }},
		{"Print", "c", func(x given) []any { return l(quality.Print(x.section)) }},
	}
}

// setting makes an argument have an error.
type setting struct {
	e   api.Errno
	set func(x *given)
}

// settings returns how the argument is set to each of some bad values.
func settings[T any](l []bad[T], field func(x *given) *T) []setting {
	var out []setting
	for _, b := range l {
		out = append(out, setting{b.e, func(x *given) { *field(x) = b.x }})
	}
	return out
}

// flawsOf returns how each argument has errors.
func flawsOf() map[rune][]setting {
	return map[rune][]setting{
		'a': settings(badMoments(), func(x *given) *quality.Moments { return &x.a }),
		'b': settings(badMoments(), func(x *given) *quality.Moments { return &x.b }),
		'r': settings(badRuns(), func(x *given) *sample.Run { return &x.run }),
		'p': settings(badPlaces(), func(x *given) *api.Span { return &x.places }),
		's': settings(badNumbers(2, 256, api.ErrRange), func(x *given) *int { return &x.size }),
		'v': settings(badNumbers(0, 268435456, api.ErrRange), func(x *given) *int { return &x.variance }),
		'c': settings(badSections(), func(x *given) *quality.Section { return &x.section }),
		'm': settings(badMeasurements(), func(x *given) *quality.Measurement { return &x.m }),
		't': settings(badActs(), func(x *given) *quality.Act { return &x.act }),
		'k': settings(badNumbers(0, 1, api.ErrUnknown), func(x *given) *int { return &x.period }),
		'd': settings(badNumbers(0, 100000, api.ErrRange), func(x *given) *int { return &x.day }),
		'l': settings(badNumbers(0, 100000, api.ErrRange), func(x *given) *int { return &x.limit }),
		'i': settings(badNumbers(0, 0, api.ErrUnknown), func(x *given) *int { return &x.number }),
		'w': settings(badNumbers(0, 100000, api.ErrRange), func(x *given) *int { return &x.wrong }),
		'g': settings(badLines(), func(x *given) *quality.Line { return &x.line }),
		'n': settings(badSectionLists(), func(x *given) *[]quality.Section { return &x.sections }),
	}
}

// checkError checks that a call has an error, and beside it zero values alone.
func checkError(t *testing.T, what string, results []any, e api.Errno) {
	t.Helper()
	last := len(results) - 1
	want(t, what, results[last:], list(e))
	for _, x := range results[:last] {
		if v := reflect.ValueOf(x); !same(v, reflect.Zero(v.Type())) {
			t.Errorf("%s: got %v beside an error", what, x)
		}
	}
}

// TestErrorsOfArguments checks of each function that the first argument with an error decides, whatever those behind it are.
func TestErrorsOfArguments(t *testing.T) {
	flaws := flawsOf()
	for _, c := range calls() {
		results := c.f(shownGiven())
		want(t, c.name+" without an error", results[len(results)-1:], list(api.OK))
		for at, argument := range c.arguments {
			for i, f := range flaws[argument] {
				x := shownGiven()
				f.set(&x)
				checkError(t, fmt.Sprintf("%v with the flaw %v of %c", c.name, i, argument), c.f(x), f.e)
				for _, later := range c.arguments[at+1:] {
					for k, other := range flaws[later] {
						x := shownGiven()
						other.set(&x)
						f.set(&x)
						checkError(t, fmt.Sprintf("%v with the flaw %v of %c, and %v of %c", c.name, i, argument, k, later), c.f(x), f.e)
					}
				}
			}
		}
	}
}

// TestErrorsBehindArguments checks the errors that are named behind those of the arguments, and that these come first.
func TestErrorsBehindArguments(t *testing.T) {
	all := map[string]call{}
	for _, c := range calls() {
		all[c.name] = c
	}
	// The periods of short have two, one, no and three measurements.
	short := func() quality.Section {
		return section("short", measured(1, 10, 2, 20, 5, 30, 10, 10, 11, 20, 12, 40), acts(4, 6, 9)...)
	}
	full := section("full", manyMeasured(32), acts(90)...) // up to the day 93
	busy := section("busy", measured(5, 5, 80, 6), manyActs(16)...)
	for i, x := range []struct {
		name string
		e    api.Errno
		set  func(x *given)
	}{
		{"Added", api.OK, func(x *given) { x.a, x.b = moments(4096, 5, 5), moments(0, 0, 0) }},
		{"Added", api.OK, func(x *given) { x.a, x.b = moments(4000, 5, 5), moments(96, 0, 0) }},
		{"Added", api.ErrMany, func(x *given) { x.a, x.b = moments(4000, 5, 5), moments(97, 0, 0) }},
		{"Added", api.ErrMany, func(x *given) { x.a, x.b = moments(1, 5, 25), moments(4096, 0, 0) }},
		{"Added", api.ErrMany, func(x *given) { x.a, x.b = moments(4096, 0, 0), moments(4096, 0, 0) }},
		{"Added", api.ErrConflict, func(x *given) { x.a, x.b = moments(4096, 0, 0), moments(4096, 1, 0) }},
		{"Variance", api.ErrEmpty, func(x *given) { x.a = moments(0, 0, 0) }},
		{"Variance", api.OK, func(x *given) { x.a = moments(1, 0, 0) }},
		{"Worst", api.ErrNone, func(x *given) { x.size = 5 }},
		{"Worst", api.ErrNone, func(x *given) { x.run = run(5) }},
		{"Worst", api.ErrNone, func(x *given) { x.run = run(5, none, 2, 3, none, 5) }},
		{"Worst", api.OK, func(x *given) { x.run = run(5, none, 2, 3, 3, none) }},
		{"Indices", api.OK, func(x *given) { x.size = 5 }},
		{"Above", api.OK, func(x *given) { x.size = 5 }},

		{"Measured", api.OK, func(x *given) { x.m.Day = 51 }},
		{"Measured", api.ErrOrder, func(x *given) { x.m.Day = 50 }},
		{"Measured", api.ErrOrder, func(x *given) { x.m.Day = 0 }},
		{"Measured", api.OK, func(x *given) { x.m.Day, x.section.Acts = 51, acts(25, 51, 70) }},
		{"Measured", api.OK, func(x *given) { x.m.Day, x.section = 0, section("a", nil) }},
		{"Measured", api.OK, func(x *given) { x.m.Day, x.section = 0, section("a", nil, manyActs(16)...) }},
		{"Measured", api.OK, func(x *given) { x.m.Day, x.section = 94, section("a", manyMeasured(31)) }},
		{"Measured", api.ErrMany, func(x *given) { x.m.Day, x.section = 94, full }},
		{"Measured", api.ErrMany, func(x *given) { x.m.Day, x.section = 93, full }},
		{"Measured", api.ErrRange, func(x *given) { x.m.Index, x.section = -1, full }},

		{"Done", api.OK, func(x *given) { x.act.Day = 51 }},
		{"Done", api.ErrOver, func(x *given) { x.act.Day = 50 }},
		{"Done", api.ErrOver, func(x *given) { x.act.Day = 26 }},
		{"Done", api.ErrOrder, func(x *given) { x.act.Day = 25 }},
		{"Done", api.ErrOrder, func(x *given) { x.act.Day = 0 }},
		{"Done", api.ErrOrder, func(x *given) { x.act.Day, x.section.Acts = 60, acts(60) }},
		{"Done", api.ErrOrder, func(x *given) { x.act.Day, x.section.Acts = 59, acts(60) }},
		{"Done", api.OK, func(x *given) { x.act.Day, x.section.Acts = 61, acts(60) }},
		{"Done", api.OK, func(x *given) { x.act.Day, x.section = 0, section("a", nil) }},
		{"Done", api.ErrOver, func(x *given) { x.act.Day, x.section = 0, only(0, 0) }},
		{"Done", api.OK, func(x *given) { x.act.Day, x.section = 1, only(0, 0) }},
		{"Done", api.OK, func(x *given) { x.act.Day, x.section = 75, section("a", nil, manyActs(15)...) }},
		{"Done", api.ErrMany, func(x *given) { x.act.Day, x.section = 90, busy }},
		{"Done", api.ErrMany, func(x *given) { x.act.Day, x.section = 76, busy }},
		{"Done", api.ErrMany, func(x *given) { x.act.Day, x.section = 75, busy }},
		{"Done", api.ErrKind, func(x *given) { x.act.Kind, x.section = "", busy }},
		{"Done", api.OK, func(x *given) { x.act.Day, x.section = 94, full }},

		{"Fitted", api.OK, func(x *given) { x.section, x.period = short(), 0 }},
		{"Fitted", api.ErrShort, func(x *given) { x.section, x.period = short(), 1 }},
		{"Fitted", api.ErrShort, func(x *given) { x.section, x.period = short(), 2 }},
		{"Fitted", api.OK, func(x *given) { x.section, x.period = short(), 3 }},
		{"Fitted", api.ErrUnknown, func(x *given) { x.section, x.period = short(), 4 }},
		{"Fitted", api.ErrShort, func(x *given) { x.section, x.period = section("a", nil), 0 }},
		{"Fitted", api.ErrUnknown, func(x *given) { x.section, x.period = section("a", nil), 1 }},
		{"Predicted", api.ErrShort, func(x *given) { x.section = short() }},
		{"Predicted", api.ErrRange, func(x *given) { x.section, x.day = short(), -1 }},
		{"Predicted", api.OK, func(x *given) { x.section, x.period, x.day = short(), 3, 0 }},
		{"Reached", api.ErrShort, func(x *given) { x.section = short() }},
		{"Reached", api.ErrRange, func(x *given) { x.section, x.limit = short(), 100001 }},
		{"Reached", api.ErrNone, func(x *given) { x.limit = 100000 }},
		{"Reached", api.ErrShort, func(x *given) { x.section, x.limit = short(), 100000 }},
		{"Left", api.ErrShort, func(x *given) { x.section = short() }},
		{"Left", api.ErrShort, func(x *given) { x.section, x.number = short(), 1 }},
		{"Left", api.ErrShort, func(x *given) { x.section, x.number = short(), 2 }},
		{"Left", api.ErrUnknown, func(x *given) { x.section, x.number = short(), 3 }},
		{"Left", api.ErrUnknown, func(x *given) { x.section = section("a", nil) }},

		{"Fits", api.OK, func(x *given) { x.section = short() }},
		{"Fits", api.OK, func(x *given) { x.section, x.period = short(), 2 }},
		{"Range", api.ErrShort, func(x *given) { x.section = short() }},
		{"Range", api.ErrShort, func(x *given) { x.section, x.period = short(), 2 }},
		{"Range", api.ErrShort, func(x *given) { x.section, x.wrong = short(), 0 }},
		{"Range", api.ErrRange, func(x *given) { x.section, x.day = short(), 100001 }},
		{"Range", api.ErrRange, func(x *given) { x.section, x.wrong = short(), -1 }},
		{"Range", api.ErrInfeasible, func(x *given) { x.wrong = 0 }},
		{"Range", api.ErrRange, func(x *given) { x.wrong, x.day = 0, -1 }},
		{"Earliest", api.ErrShort, func(x *given) { x.section = short() }},
		{"Earliest", api.ErrRange, func(x *given) { x.section, x.limit = short(), -1 }},
		{"Earliest", api.ErrInfeasible, func(x *given) { x.wrong = 0 }},
		{"Earliest", api.ErrInfeasible, func(x *given) { x.wrong, x.limit = 0, 100000 }},
		{"Earliest", api.ErrNone, func(x *given) { x.limit = 100000 }},
		{"Earliest", api.ErrRange, func(x *given) { x.wrong, x.limit = 0, 100001 }},
		{"Latest", api.ErrShort, func(x *given) { x.section = short() }},
		{"Latest", api.ErrRange, func(x *given) { x.section, x.limit = short(), 100001 }},
		{"Latest", api.ErrInfeasible, func(x *given) { x.wrong = 0 }},
		{"Latest", api.ErrInfeasible, func(x *given) { x.wrong, x.limit = 0, 0 }},
		{"Latest", api.ErrNone, func(x *given) { x.limit = 100000 }},
		{"Latest", api.ErrRange, func(x *given) { x.wrong, x.limit = 0, -1 }},
	} {
		arguments := shownGiven()
		x.set(&arguments)
		results := all[x.name].f(arguments)
		if x.e != api.OK {
			checkError(t, fmt.Sprintf("%v %v", x.name, i), results, x.e)
			continue
		}
		want(t, fmt.Sprintf("%v %v", x.name, i), results[len(results)-1:], list(api.OK))
	}
}
