package fault_test

import (
	"fmt"
	"reflect"
	"slices"
	"strings"
	"testing"

	"versine/api"
	"versine/fault"
	"versine/sample"
)

// given is arguments of all functions.
type given struct {
	limits      fault.Limits
	speed       int
	value       int
	run, later  sample.Run
	bands       [2]int
	faults      []fault.Fault
	gap         int
	a, b        fault.Measured
	limit       int
	office      fault.Office
	post        fault.Post
	restriction fault.Restriction
	name        string
	message     fault.Message
	answer      int
	rounds      []fault.Round
	place       int
	text        string
}

// shownGiven returns arguments for which no function has an error.
func shownGiven() given {
	return given{
		limits: shownLimits(), speed: 160, value: 65,
		run: shownRun(), later: laterRun(), bands: [2]int{8, 4},
		faults: shownFaults(), gap: 1,
		a: measured(100, 40, 4), b: measured(200, 50, 5), limit: 64,
		office: shownOffice(1), post: post(2, a(), b()),
		restriction: restriction("c", 5, 9, 60), name: "b", message: withdraws(3, "a"), answer: 2,
		rounds: shownRounds(), place: 17, text: shownText,
	}
}

// call is a function with its arguments from left to right.
type call struct {
	name      string
	arguments string
	f         func(x given) []any
}

// calls returns all functions but Parse. The letters of arguments are those of flawsOf.
func calls() []call {
	l := func(l ...any) []any { return l }
	return []call{
		{"CheckLimits", "l", func(x given) []any { return l(fault.CheckLimits(x.limits)) }},
		{"Limit", "ls", func(x given) []any { return l(fault.Limit(x.limits, x.speed)) }},
		{"Permitted", "lv", func(x given) []any { return l(fault.Permitted(x.limits, x.value)) }},
		{"Speeds", "lr", func(x given) []any { return l(fault.Speeds(x.limits, x.run)) }},
		{"Exceeded", "lrs", func(x given) []any { return l(fault.Exceeded(x.limits, x.run, x.speed)) }},
		{"CheckFaults", "f", func(x given) []any { return l(fault.CheckFaults(x.faults)) }},
		{"Merged", "fg", func(x given) []any { return l(fault.Merged(x.faults, x.gap)) }},
		{"Grown", "rtd", func(x given) []any { return l(fault.Grown(x.run, x.later, x.bands)) }},
		{"Due", "abm", func(x given) []any { return l(fault.Due(x.a, x.b, x.limit)) }},
		{"CheckOffice", "o", func(x given) []any { return l(fault.CheckOffice(x.office)) }},
		{"CheckPost", "p", func(x given) []any { return l(fault.CheckPost(x.post)) }},
		{"Imposed", "ok", func(x given) []any { return l(fault.Imposed(x.office, x.restriction)) }},
		{"Withdrawn", "on", func(x given) []any { return l(fault.Withdrawn(x.office, x.name)) }},
		{"Sent", "o", func(x given) []any { return l(fault.Sent(x.office)) }},
		{"Arrived", "pe", func(x given) []any { return l(fault.Arrived(x.post, x.message)) }},
		{"Acknowledged", "ow", func(x given) []any { return l(fault.Acknowledged(x.office, x.answer)) }},
		{"Exchanged", "opu", func(x given) []any { return l(fault.Exchanged(x.office, x.post, x.rounds)) }},
		{"InForce", "o", func(x given) []any { return l(fault.InForce(x.office)) }},
		{"Allowed", "pc", func(x given) []any { return l(fault.Allowed(x.post, x.place)) }},
		{"Safe", "o", func(x given) []any { return l(fault.Safe(x.office)) }},
		{"Print", "p", func(x given) []any { return l(fault.Print(x.post)) }},
	}
}

// setting makes an argument have an error.
type setting struct {
	e   api.Errno
	set func(x *given)
}

// settings returns how the argument is set to each of some bad values.
func settings[T any](l []bad[T], field func(x *given) *T) []setting {
	var out []setting
	for _, b := range l {
		out = append(out, setting{b.e, func(x *given) { *field(x) = b.x }})
	}
	return out
}

// flawsOf returns how each argument has errors.
func flawsOf() map[rune][]setting {
	return map[rune][]setting{
		'l': settings(badLimits(), func(x *given) *fault.Limits { return &x.limits }),
		's': settings(badNumbers(1, 500), func(x *given) *int { return &x.speed }),
		'v': settings(badNumbers(-16384, 16384), func(x *given) *int { return &x.value }),
		'r': settings(badRuns(), func(x *given) *sample.Run { return &x.run }),
		't': settings(badRuns(), func(x *given) *sample.Run { return &x.later }),
		'd': settings(badBands(), func(x *given) *[2]int { return &x.bands }),
		'f': settings(badFaults(), func(x *given) *[]fault.Fault { return &x.faults }),
		'g': settings(badNumbers(0, 1000), func(x *given) *int { return &x.gap }),
		'a': settings(badMeasured(), func(x *given) *fault.Measured { return &x.a }),
		'b': settings(badMeasured(), func(x *given) *fault.Measured { return &x.b }),
		'm': settings(badNumbers(0, 16384), func(x *given) *int { return &x.limit }),
		'o': settings(badOffices(), func(x *given) *fault.Office { return &x.office }),
		'p': settings(badPosts(), func(x *given) *fault.Post { return &x.post }),
		'k': settings(badRestrictions(), func(x *given) *fault.Restriction { return &x.restriction }),
		'n': settings(badNames(), func(x *given) *string { return &x.name }),
		'e': settings(badMessages(), func(x *given) *fault.Message { return &x.message }),
		'w': settings(badNumbers(0, 3), func(x *given) *int { return &x.answer }),
		'u': settings(badRounds(), func(x *given) *[]fault.Round { return &x.rounds }),
		'c': settings(badNumbers(0, api.MaxPlace), func(x *given) *int { return &x.place }),
	}
}

// checkError checks that a call has an error, and beside it zero values alone.
func checkError(t *testing.T, what string, results []any, e api.Errno) {
	t.Helper()
	last := len(results) - 1
	want(t, what, results[last:], list(e))
	for _, x := range results[:last] {
		if v := reflect.ValueOf(x); !same(v, reflect.Zero(v.Type())) {
			t.Errorf("%s: got %v beside an error", what, x)
		}
	}
}

// TestErrorsOfArguments checks of each function that the first argument with an error decides, whatever those behind it are.
func TestErrorsOfArguments(t *testing.T) {
	flaws := flawsOf()
	for _, c := range calls() {
		results := c.f(shownGiven())
		want(t, c.name+" without an error", results[len(results)-1:], list(api.OK))
		for at, argument := range c.arguments {
			for i, f := range flaws[argument] {
				x := shownGiven()
				f.set(&x)
				checkError(t, fmt.Sprintf("%v with the flaw %v of %c", c.name, i, argument), c.f(x), f.e)
				for _, later := range c.arguments[at+1:] {
					for k, other := range flaws[later] {
						x := shownGiven()
						other.set(&x)
						f.set(&x)
						checkError(t, fmt.Sprintf("%v with the flaw %v of %c, and %v of %c", c.name, i, argument, k, later), c.f(x), f.e)
					}
				}
			}
		}
	}
}

// TestErrorsBehindArguments checks the errors that are named behind those of the arguments, and that these come first.
func TestErrorsBehindArguments(t *testing.T) {
	all := map[string]call{}
	for _, c := range calls() {
		all[c.name] = c
	}
	full := fullOffice(64)
	often := slices.Repeat(ints(100, 0), 257)
	for i, x := range []struct {
		name string
		e    api.Errno
		set  func(x *given)
	}{
		{"Limit", api.OK, func(x *given) { x.speed = 160 }},
		{"Limit", api.ErrNone, func(x *given) { x.speed = 161 }},
		{"Limit", api.ErrNone, func(x *given) { x.speed = 500 }},
		{"Limit", api.ErrRange, func(x *given) { x.speed = 501 }},
		{"Exceeded", api.ErrNone, func(x *given) { x.speed = 161 }},
		{"Exceeded", api.ErrRange, func(x *given) { x.speed = 501 }},
		{"Exceeded", api.ErrName, func(x *given) { x.speed, x.run = 161, sample.Run{} }},
		{"Exceeded", api.OK, func(x *given) { x.run = run(0, often[:512]...) }},
		{"Exceeded", api.ErrMany, func(x *given) { x.run = run(0, often[:513]...) }},
		{"Exceeded", api.ErrMany, func(x *given) { x.run = run(0, often...) }},
		{"Exceeded", api.ErrNone, func(x *given) { x.run, x.speed = run(0, often...), 161 }},
		{"Exceeded", api.OK, func(x *given) { x.run, x.speed = run(0, often...), 80 }},
		{"Exceeded", api.OK, func(x *given) { x.run = run(0, constant(100, 4096)...) }},

		{"Grown", api.ErrShape, func(x *given) { x.later = run(100, 1, 2, 3, 4, 5, 6, 7) }},
		{"Grown", api.ErrShape, func(x *given) { x.later = run(100, 1, 2, 3, 4, 5, 6, 7, 8, 9) }},
		{"Grown", api.ErrShape, func(x *given) { x.later = run(101, 1, 2, 3, 4, 5, 6, 7, 8) }},
		{"Grown", api.ErrShape, func(x *given) { x.later, x.bands = run(99, 1, 2, 3, 4, 5, 6, 7, 8), [2]int{-1, 0} }},
		{"Grown", api.ErrShape, func(x *given) { x.run, x.bands = run(100), [2]int{0, 1001} }},
		{"Grown", api.ErrShape, func(x *given) { x.run, x.later = run(100), run(99) }},
		{"Grown", api.OK, func(x *given) { x.run, x.later = run(100), run(100) }},
		{"Grown", api.OK, func(x *given) { x.later.Name = "other" }},
		{"Grown", api.ErrName, func(x *given) { x.run, x.later = run(100), sample.Run{} }},

		{"Due", api.ErrOrder, func(x *given) { x.b.Day = 100 }},
		{"Due", api.ErrOrder, func(x *given) { x.b.Day = 99 }},
		{"Due", api.ErrOrder, func(x *given) { x.b.Day, x.limit = 0, 16384 }},
		{"Due", api.OK, func(x *given) { x.b.Day = 101 }},
		{"Due", api.ErrRange, func(x *given) { x.b.Day, x.limit = 99, 16385 }},
		{"Due", api.ErrRange, func(x *given) { x.a, x.b = measured(150, -1, 0), measured(100, 5, 5) }},
		{"Due", api.ErrNone, func(x *given) { x.b.Value = 31 }},
		{"Due", api.ErrNone, func(x *given) { x.b.Value, x.b.Band = 0, 0 }},

		{"Imposed", api.ErrTwice, func(x *given) { x.restriction = b() }},
		{"Imposed", api.ErrTwice, func(x *given) { x.restriction.Name = "b" }},
		{"Imposed", api.OK, func(x *given) { x.restriction.Name = "a" }},
		{"Imposed", api.OK, func(x *given) { x.office = fullOffice(63) }},
		{"Imposed", api.ErrMany, func(x *given) { x.office = full }},
		{"Imposed", api.ErrTwice, func(x *given) { x.office, x.restriction.Name = full, "r00" }},
		{"Imposed", api.ErrTwice, func(x *given) { x.office, x.restriction.Name = full, "r63" }},
		{"Imposed", api.ErrMany, func(x *given) { x.office = swaying(64) }},
		{"Imposed", api.ErrMany, func(x *given) { x.office, x.restriction = swaying(64), a() }},
		{"Imposed", api.OK, func(x *given) { x.office = swaying(63) }},
		{"Imposed", api.ErrTwice, func(x *given) { x.office, x.restriction = swaying(63), a() }},
		{"Imposed", api.ErrSpan, func(x *given) { x.office, x.restriction = full, restriction("r00", 5, 5, 5) }},
		{"Withdrawn", api.ErrUnknown, func(x *given) { x.name = "a" }},
		{"Withdrawn", api.ErrUnknown, func(x *given) { x.name = "c" }},
		{"Withdrawn", api.ErrUnknown, func(x *given) { x.office = office(0) }},
		{"Withdrawn", api.ErrUnknown, func(x *given) { x.office = full }},
		{"Withdrawn", api.ErrMany, func(x *given) { x.office, x.name = full, "r07" }},
		{"Withdrawn", api.ErrUnknown, func(x *given) { x.office, x.name = swaying(64), "a" }},
		{"Withdrawn", api.OK, func(x *given) { x.office, x.name = swaying(63), "a" }},
		{"Withdrawn", api.ErrName, func(x *given) { x.office, x.name = full, "r 07" }},

		{"Exchanged", api.ErrConflict, func(x *given) { x.post = post(4, b()) }},
		{"Exchanged", api.ErrConflict, func(x *given) { x.post = post(64, b()) }},
		{"Exchanged", api.OK, func(x *given) { x.post = post(3, b()) }},
		{"Exchanged", api.OK, func(x *given) { x.post = post(1, a()) }},
		{"Exchanged", api.ErrConflict, func(x *given) { x.post = post(0) }},
		{"Exchanged", api.OK, func(x *given) { x.post, x.office.Acked = post(0), 0 }},
		{"Exchanged", api.ErrConflict, func(x *given) { x.office.Acked = 3 }},
		{"Exchanged", api.OK, func(x *given) { x.office.Acked = 2 }},
		{"Exchanged", api.ErrConflict, func(x *given) { x.post = post(2, b(), a()) }},
		{"Exchanged", api.ErrConflict, func(x *given) { x.post = post(2, a()) }},
		{"Exchanged", api.ErrConflict, func(x *given) { x.post = post(2, a(), b(), restriction("c", 1, 2, 3)) }},
		{"Exchanged", api.ErrConflict, func(x *given) { x.post = post(2) }},
		{"Exchanged", api.ErrConflict, func(x *given) { x.post = post(2, a(), restriction("c", 15, 30, 40)) }},
		{"Exchanged", api.ErrConflict, func(x *given) { x.post = post(2, a(), restriction("b", 16, 30, 40)) }},
		{"Exchanged", api.ErrConflict, func(x *given) { x.post = post(2, a(), restriction("b", 15, 31, 40)) }},
		{"Exchanged", api.ErrConflict, func(x *given) { x.post = post(2, a(), restriction("b", 15, 30, 41)) }},
		{"Exchanged", api.ErrConflict, func(x *given) { x.post = post(3, a(), b()) }},
		{"Exchanged", api.ErrConflict, func(x *given) { x.post, x.rounds = post(4, b()), nil }},
		{"Exchanged", api.ErrRange, func(x *given) { x.post, x.rounds = post(4, b()), []fault.Round{{Lost: ints(0)}} }},
		{"Exchanged", api.OK, func(x *given) { x.office, x.post = office(0), post(0) }},
		{"Exchanged", api.ErrConflict, func(x *given) { x.office, x.post = office(0), post(0, a()) }},
	} {
		arguments := shownGiven()
		x.set(&arguments)
		results := all[x.name].f(arguments)
		if x.e != api.OK {
			checkError(t, fmt.Sprintf("%v %v", x.name, i), results, x.e)
			continue
		}
		want(t, fmt.Sprintf("%v %v", x.name, i), results[len(results)-1:], list(api.OK))
	}
}

// TestGreatestArguments checks that the greatest and the least arguments are permitted.
func TestGreatestArguments(t *testing.T) {
	for i, l := range []fault.Limits{manyRows(12), rows(0, 1, 0), rows(1000, 500, 16384), rows(5, 500, 0, 1, 16384)} {
		want(t, "CheckLimits", list(i, fault.CheckLimits(l)), list(i, api.OK))
	}
	edge := rows(1000, 500, 0, 1, 16384)
	for _, x := range [][2]int{{500, 0}, {499, 0}, {2, 0}, {1, 16384}} {
		n, e := fault.Limit(edge, x[0])
		want(t, "Limit", list(x[0], n, e), list(x[0], x[1], api.OK))
	}
	for _, x := range [][2]int{{0, 500}, {1, 1}, {-1, 1}, {16384, 1}, {-16384, 1}} {
		n, e := fault.Permitted(edge, x[0])
		want(t, "Permitted", list(x[0], n, e), list(x[0], x[1], api.OK))
	}
	r := run(api.MaxPlace-5, 16384, -16384, 15384, -15385, none)
	speeds, e := fault.Speeds(edge, r)
	want(t, "Speeds", list(speeds, e), list(ints(0, 0, 1, 0, 0), api.OK))
	l, e := fault.Exceeded(edge, r, 1)
	want(t, "Exceeded", list(l, e), list([]fault.Fault{found(api.MaxPlace-5, api.MaxPlace-3, 16384, false), found(api.MaxPlace-2, api.MaxPlace-1, -15385, false)}, api.OK))
	for i, l := range [][]fault.Fault{nil, manyFaults(256), {found(0, api.MaxPlace, 16384, true)}, {found(0, 1, -16384, false), found(1, 2, 0, true)}} {
		want(t, "CheckFaults", list(i, fault.CheckFaults(l)), list(i, api.OK))
	}
	l, e = fault.Merged([]fault.Fault{found(0, 1, 16384, false), found(1001, api.MaxPlace, -16384, true)}, 1000)
	want(t, "Merged", list(l, e), list([]fault.Fault{found(0, api.MaxPlace, 16384, true)}, api.OK))
	g, e := fault.Grown(run(0, 0, 16384), run(0, -16384, 0), [2]int{1000, 1000})
	want(t, "Grown", list(g, e), list([]fault.Growth{grown(0, 1, 14384)}, api.OK))
	g, e = fault.Grown(run(0, constant(0, 4096)...), run(0, slices.Repeat(ints(1, 0), 2048)...), [2]int{})
	want(t, "Grown", list(len(g), e), list(2048, api.OK))
	day, e := fault.Due(measured(0, 0, 1000), measured(100000, 16384, 1000), 16384)
	want(t, "Due", list(day, e), list(100000, api.OK))
	day, e = fault.Due(measured(0, 0, 0), measured(1, 0, 1), 16384)
	want(t, "Due", list(day, e), list(16385, api.OK))

	full := fullOffice(64)
	full.Acked = 64
	for i, o := range []fault.Office{full, office(0), swaying(64), office(0, imposes(1, restriction(strings.Repeat("a", 24), 0, api.MaxPlace, 500)))} {
		want(t, "CheckOffice", list(i, fault.CheckOffice(o)), list(i, api.OK))
	}
	for i, p := range []fault.Post{post(0), post(64, manyRestrictions(64)...), post(0, a()), post(64, restriction("a", api.MaxPlace-1, api.MaxPlace, 0))} {
		want(t, "CheckPost", list(i, fault.CheckPost(p)), list(i, api.OK))
	}
	o, p, e := fault.Exchanged(fullOffice(64), post(0), append(constant(fault.Round{Lost: constant(64, 5000)}, 63), fault.Round{}))
	want(t, "Exchanged", list(o, p, e), list(full, post(64, manyRestrictions(64)...), api.OK))
	speed, e := fault.Allowed(post(64, restriction("a", 0, api.MaxPlace, 0)), api.MaxPlace)
	want(t, "Allowed", list(speed, e), list(500, api.OK))
	speed, e = fault.Allowed(post(64, restriction("a", 0, api.MaxPlace, 0)), api.MaxPlace-1)
	want(t, "Allowed", list(speed, e), list(0, api.OK))
}
