package plan_test

import (
	"slices"
	"strings"
	"testing"

	"versine/api"
	"versine/plan"
)

// TestCheckOffice checks offices without an error, and with each one.
func TestCheckOffice(t *testing.T) {
	long := strings.Repeat("a", 24)
	for i, o := range []plan.Office{
		{}, shown(), {Sections: manySections(7), Shifts: manyShifts(5)}, {Sections: manySections(1)}, {Shifts: manyShifts(1)},
		{Sections: []plan.Section{section(long, 0, 1, 0, 0), section("Z_9", 100000, 1000, 10000, 1000000), section("A", 5, 5, 5, 5), section("a", 5, 5, 5, 5)}},
		{Shifts: []plan.Shift{shift(0, 0, 0, 0), shift(0, 1000, 10000, 1000), shift(100000, 0, 0, 0), shift(100000, 1, 1, 1)}},
	} {
		want(t, "CheckOffice", list(i, plan.CheckOffice(o)), list(i, api.OK))
	}
	for i, b := range badOffices() {
		want(t, "CheckOffice", list(i, plan.CheckOffice(b.x)), list(i, b.e))
	}
}

// TestShownPlans checks example 1, and other plans of O.
func TestShownPlans(t *testing.T) {
	best, value, e := plan.Plan(shown())
	want(t, "Plan", list(best, value, e), list(ints(1, -1, 0), told(55, 14), api.OK))
	for i, x := range []struct {
		plan []int
		told plan.Told
		left [][2]int
		last int
		e    api.Errno // of Last
	}{
		{ints(1, -1, 0), told(55, 14), [][2]int{{0, 6}, {2, 3}}, 8, api.OK},
		{ints(0, 1, -1), told(50, 11), [][2]int{{1, 1}, {3, 3}}, 8, api.OK},
		{ints(-1, -1, 0), told(25, 10), [][2]int{{0, 6}, {6, 8}}, 3, api.OK},
		{ints(-1, 1, -1), told(20, 3), [][2]int{{5, 6}, {3, 3}}, 8, api.OK},
		{ints(-1, -1, -1), told(0, 0), [][2]int{{5, 6}, {6, 8}}, 0, api.ErrNone},
	} {
		value, e := plan.CheckPlan(shown(), x.plan)
		want(t, "CheckPlan", list(i, value, e), list(i, x.told, api.OK))
		left, e := plan.Left(shown(), x.plan)
		want(t, "Left", list(i, left, e), list(i, x.left, api.OK))
		last, e := plan.Last(shown(), x.plan)
		want(t, "Last", list(i, last, e), list(i, x.last, x.e))
	}
}

// TestErrorsOfPlans checks which error of several decides, and the edges of hours, tonnes and days.
func TestErrorsOfPlans(t *testing.T) {
	four := []plan.Section{section("a", 5, 4, 9, 1), section("b", 5, 4, 1, 1), section("c", 5, 4, 1, 1), section("d", 5, 5, 0, 1)}
	for i, x := range []struct {
		sections []plan.Section
		shifts   []plan.Shift
		plan     []int
		e        api.Errno
	}{
		{four, []plan.Shift{shift(5, 4, 9, 0), shift(5, 8, 2, 0)}, ints(0, 1, 1, -1), api.OK},
		{four, []plan.Shift{shift(5, 4, 8, 0), shift(5, 8, 2, 0)}, ints(0, 1, 1, -1), api.ErrLimit},
		{four, []plan.Shift{shift(5, 3, 9, 0), shift(5, 8, 2, 0)}, ints(0, 1, 1, -1), api.ErrLarge},
		{four, []plan.Shift{shift(5, 3, 8, 0), shift(5, 8, 2, 0)}, ints(0, 1, 1, -1), api.ErrLarge},
		{four, []plan.Shift{shift(5, 4, 9, 0), shift(5, 7, 2, 0)}, ints(0, 1, 1, -1), api.ErrLarge},
		{four, []plan.Shift{shift(5, 4, 9, 0), shift(5, 8, 1, 0)}, ints(0, 1, 1, -1), api.ErrLimit},
		{four, []plan.Shift{shift(5, 4, 8, 0), shift(5, 7, 1, 0)}, ints(0, 1, 1, -1), api.ErrLimit}, // of the first shift
		{four, []plan.Shift{shift(5, 8, 1, 0), shift(5, 3, 9, 0)}, ints(1, 0, 0, -1), api.ErrLimit},
		{four, []plan.Shift{shift(5, 4, 8, 0), shift(6, 7, 1, 0)}, ints(0, 1, 1, -1), api.ErrOver},
		{four, []plan.Shift{shift(5, 4, 9, 0), shift(6, 8, 2, 0)}, ints(0, 0, -1, 1), api.ErrOver},
		{four, []plan.Shift{shift(6, 0, 0, 0), shift(6, 0, 0, 0)}, ints(-1, -1, -1, -1), api.OK},
		{four, nil, ints(-1, -1, -1, -1), api.OK},
		{four, nil, ints(-1, -1, 0, -1), api.ErrUnknown},
		{nil, []plan.Shift{shift(6, 0, 0, 0)}, nil, api.OK},
		{nil, nil, nil, api.OK},
	} {
		o := plan.Office{Sections: x.sections, Shifts: x.shifts}
		value, e := plan.CheckPlan(o, x.plan)
		left, f := plan.Left(o, x.plan)
		want(t, "the errors of a plan", list(i, e, f), list(i, x.e, x.e))
		if x.e != api.OK {
			want(t, "beside an error", list(i, value, left), list(i, plan.Told{}, [][2]int(nil)))
			_, e = plan.Last(o, x.plan)
			want(t, "Last", list(i, e), list(i, x.e))
		}
	}
}

// TestLast checks the last of several shifts on equal days, and days of shifts without sections.
func TestLast(t *testing.T) {
	o := plan.Office{
		Sections: []plan.Section{section("a", 9, 1, 0, 0), section("b", 9, 1, 0, 0)},
		Shifts:   []plan.Shift{shift(0, 5, 5, 0), shift(4, 5, 5, 0), shift(4, 5, 5, 0), shift(7, 5, 5, 0)},
	}
	for i, x := range []struct {
		plan []int
		last int
	}{
		{ints(0, -1), 0}, {ints(0, 0), 0}, {ints(1, 0), 4}, {ints(0, 2), 4}, {ints(2, 1), 4}, {ints(3, 0), 7}, {ints(0, 3), 7}, {ints(-1, 3), 7}, {ints(2, -1), 4},
	} {
		last, e := plan.Last(o, x.plan)
		want(t, "Last", list(i, last, e), list(i, x.last, api.OK))
	}
}

// isLonger reports whether a number of sections takes more than there is, by one of their numbers.
func isLonger(o plan.Office, l []int, shift, most int, number func(s plan.Section) int) bool {
	sum := 0
	for i, s := range o.Sections {
		if l[i] == shift {
			sum += number(s)
		}
	}
	return sum > most
}

func workOf(s plan.Section) int { return s.Work }

func ballastOf(s plan.Section) int { return s.Ballast }

// errorOf returns the error of as many numbers as sections, each of which is -1 or the index of a shift, by its definition.
func errorOf(o plan.Office, l []int) api.Errno {
	for i, k := range l {
		if k >= 0 && o.Shifts[k].Day > o.Sections[i].Deadline {
			return api.ErrOver
		}
	}
	for k, s := range o.Shifts {
		if isLonger(o, l, k, s.Hours, workOf) {
			return api.ErrLarge
		}
		if isLonger(o, l, k, s.Ballast, ballastOf) {
			return api.ErrLimit
		}
	}
	return api.OK
}

// toldOf returns the value and the cost of a plan by its definition.
func toldOf(o plan.Office, l []int) plan.Told {
	value, cost := 0, 0
	for i, s := range o.Sections {
		for k, x := range o.Shifts {
			if l[i] == k {
				value += s.Value
				cost += s.Work * x.Rate
			}
		}
	}
	return told(value, cost)
}

// isBetter reports whether the first value and cost are better.
func isBetter(a, b plan.Told) bool {
	return a.Value > b.Value || a.Value == b.Value && a.Cost < b.Cost
}

// bestOf returns the best plan by its definition: lists are visited in their order, so it is the first one of its value and cost.
func bestOf(o plan.Office) ([]int, plan.Told) {
	best, value := constant(-1, len(o.Sections)), told(-1, 0)
	for l := range lists(len(o.Sections), -1, len(o.Shifts)-1) {
		if x := toldOf(o, l); isBetter(x, value) && errorOf(o, l) == api.OK {
			best, value = slices.Clone(l), x
		}
	}
	return best, value
}

// TestPlansByDefinition checks all plans of small offices.
func TestPlansByDefinition(t *testing.T) {
	g := source(1)
	seen := map[api.Errno]int{}
	for range 1000 {
		o := someOffice(g, 4, 3)
		for l := range lists(len(o.Sections), -1, len(o.Shifts)-1) {
			e := errorOf(o, l)
			seen[e]++
			value, f := plan.CheckPlan(o, l)
			if e != api.OK {
				want(t, "CheckPlan", list(o, l, value, f), list(o, l, plan.Told{}, e))
				continue
			}
			want(t, "CheckPlan", list(o, l, value, f), list(o, l, toldOf(o, l), e))
		}
		best, value := bestOf(o)
		l, x, e := plan.Plan(o)
		want(t, "Plan", list(o, l, x, e), list(o, best, value, api.OK))
	}
	for _, e := range []api.Errno{api.OK, api.ErrOver, api.ErrLarge, api.ErrLimit} {
		if seen[e] < 500 {
			t.Errorf("too few plans with the error %v: %v", e, seen[e])
		}
	}
}

// TestTies checks which one of several plans of the greatest value is the best.
func TestTies(t *testing.T) {
	one, two := section("a", 9, 2, 1, 5), section("b", 9, 2, 1, 5)
	nothing := section("c", 9, 1, 0, 0)
	for i, x := range []struct {
		sections []plan.Section
		shifts   []plan.Shift
		best     []int
		told     plan.Told
	}{
		{[]plan.Section{one, two}, []plan.Shift{shift(0, 2, 1, 1)}, ints(-1, 0), told(5, 2)},
		{[]plan.Section{one, two}, []plan.Shift{shift(0, 2, 1, 1), shift(0, 2, 1, 1)}, ints(0, 1), told(10, 4)},
		{[]plan.Section{one, two}, []plan.Shift{shift(0, 2, 1, 2), shift(0, 2, 1, 1)}, ints(0, 1), told(10, 6)},
		{[]plan.Section{one}, []plan.Shift{shift(0, 2, 1, 2), shift(0, 2, 1, 1), shift(0, 2, 1, 1)}, ints(1), told(5, 2)},
		{[]plan.Section{one, two}, []plan.Shift{shift(0, 4, 2, 2), shift(0, 2, 1, 1), shift(9, 2, 1, 0)}, ints(1, 2), told(10, 2)},
		{[]plan.Section{nothing}, []plan.Shift{shift(0, 2, 1, 1)}, ints(-1), told(0, 0)},
		{[]plan.Section{nothing}, []plan.Shift{shift(0, 2, 1, 0)}, ints(-1), told(0, 0)},
		{[]plan.Section{nothing, one}, []plan.Shift{shift(0, 5, 5, 0)}, ints(-1, 0), told(5, 0)},
		{[]plan.Section{one, nothing}, []plan.Shift{shift(0, 5, 5, 0), shift(0, 5, 5, 0)}, ints(0, -1), told(5, 0)},
		{[]plan.Section{section("a", 9, 3, 0, 7), section("b", 9, 2, 0, 4), section("c", 9, 2, 0, 3)}, []plan.Shift{shift(0, 4, 0, 1)}, ints(0, -1, -1), told(7, 3)},
		{[]plan.Section{section("a", 9, 4, 0, 7), section("b", 9, 2, 0, 4), section("c", 9, 2, 0, 3)}, []plan.Shift{shift(0, 4, 0, 1)}, ints(-1, 0, 0), told(7, 4)},
	} {
		o := plan.Office{Sections: x.sections, Shifts: x.shifts}
		l, value, e := plan.Plan(o)
		want(t, "Plan", list(i, l, value, e), list(i, x.best, x.told, api.OK))
	}
}

// TestGreatestOffices checks offices with as many sections and shifts as there may be.
func TestGreatestOffices(t *testing.T) {
	g := source(2)
	for range 4 {
		var o plan.Office
		for i := range 7 {
			o.Sections = append(o.Sections, someSection(g, i, 9))
		}
		for day := range 5 {
			o.Shifts = append(o.Shifts, someShift(g, day))
		}
		best, value := bestOf(o)
		l, x, e := plan.Plan(o)
		want(t, "Plan", list(o, l, x, e), list(o, best, value, api.OK))
	}

	large := plan.Office{Sections: constant(section("", 100000, 1000, 10000, 1000000), 7), Shifts: constant(shift(100000, 1000, 10000, 1000), 5)}
	for i := range large.Sections {
		large.Sections[i].Name = nameOf(i)
	}
	l, value, e := plan.Plan(large)
	want(t, "Plan", list(l, value, e), list(ints(-1, -1, 0, 1, 2, 3, 4), told(5000000, 5000000), api.OK))
	left, e := plan.Left(large, l)
	want(t, "Left", list(left, e), list(constant([2]int{0, 0}, 5), api.OK))
	large.Shifts = constant(shift(100000, 7, 0, 1000), 5)
	for i := range large.Sections {
		large.Sections[i].Work, large.Sections[i].Ballast = 1, 0
	}
	l, value, e = plan.Plan(large) // all plans that take all sections are the best ones
	want(t, "Plan", list(l, value, e), list(constant(0, 7), told(7000000, 7000), api.OK))
	n, e := plan.Bound(large, constant(ratio(999999999, 1), 5))
	want(t, "Bound", list(n, e), list(35*999999999, api.OK))
	for i := range large.Shifts {
		large.Shifts[i].Hours = 1000
	}
	n, e = plan.Bound(large, constant(ratio(999999999, 11), 5))
	want(t, "Bound", list(n, e), list(454545454090, api.OK)) // 454545454090 and ten elevenths
	n, e = plan.Bound(large, constant(ratio(0, 1), 5))
	want(t, "Bound", list(n, e), list(7000000, api.OK))
}

// TestShownBounds checks example 2, and other bounds for O.
func TestShownBounds(t *testing.T) {
	for i, x := range []struct {
		prices []api.Ratio
		bound  int
	}{
		{[]api.Ratio{ratio(5, 1), ratio(6, 1)}, 76},
		{[]api.Ratio{ratio(5, 1), ratio(5, 1)}, 70},
		{[]api.Ratio{ratio(11, 2), ratio(11, 2)}, 72},
		{[]api.Ratio{ratio(0, 1), ratio(0, 1)}, 75},
		{[]api.Ratio{ratio(100, 1), ratio(0, 1)}, 550},
		{[]api.Ratio{ratio(0, 1), ratio(100, 1)}, 675},
		{[]api.Ratio{ratio(16, 3), ratio(20, 3)}, 79},  // 80/3 and 40, then 26/3, 4 and 0: 79 and a third
		{[]api.Ratio{ratio(31, 6), ratio(67, 10)}, 79}, // 155/6 and 201/5, then 28/3, 9/2 and 0: 79 and 13/15
	} {
		n, e := plan.Bound(shown(), x.prices)
		want(t, "Bound", list(i, n, e), list(i, x.bound, api.OK))
	}
	n, e := plan.Bound(plan.Office{}, nil)
	want(t, "Bound of nothing", list(n, e), list(0, api.OK))
	n, e = plan.Bound(plan.Office{Sections: manySections(7)}, nil)
	want(t, "Bound without shifts", list(n, e), list(0, api.OK))
}

// TestNarrowBounds checks bounds that are a 27720th below an integer, and above it.
func TestNarrowBounds(t *testing.T) {
	o := plan.Office{Sections: []plan.Section{section("a", 9, 1, 0, 0)}, Shifts: constant(shift(0, 1, 0, 0), 5)}
	for i, x := range []struct {
		prices []api.Ratio
		bound  int
	}{
		{[]api.Ratio{ratio(1, 5), ratio(4, 7), ratio(7, 8), ratio(4, 9), ratio(10, 11)}, 2}, // 83159 by 27720
		{[]api.Ratio{ratio(4, 5), ratio(3, 7), ratio(1, 8), ratio(5, 9), ratio(1, 11)}, 2},  // 55441 by 27720
		{[]api.Ratio{ratio(1, 10), ratio(1, 12), ratio(1, 4), ratio(1, 6), ratio(2, 5)}, 1},
	} {
		n, e := plan.Bound(o, x.prices)
		want(t, "Bound", list(i, n, e), list(i, x.bound, api.OK))
	}
}

// somePrices returns prices for an office.
func somePrices(g interface{ IntN(int) int }, o plan.Office) []api.Ratio {
	var l []api.Ratio
	for range o.Shifts {
		x, _ := ratioOf(fraction(g.IntN(1+g.IntN(60)), 1+g.IntN(12)))
		l = append(l, x)
	}
	return l
}

// TestBoundsByDefinition checks bounds against their definition by ratios without bounds.
func TestBoundsByDefinition(t *testing.T) {
	g := source(3)
	parts := 0
	for range 2000 {
		o := someOffice(g, 7, 5)
		prices := somePrices(g, o)
		bound := whole(0)
		for i, s := range o.Shifts {
			bound = plus(bound, times(rat(prices[i]), whole(s.Hours)))
		}
		for _, x := range o.Sections {
			most := whole(0)
			for i, s := range o.Shifts {
				gain := minus(whole(x.Value), times(whole(x.Work), rat(prices[i])))
				if s.Day <= x.Deadline && gain.Cmp(most) > 0 {
					most = gain
				}
			}
			bound = plus(bound, most)
		}
		n, e := plan.Bound(o, prices)
		want(t, "Bound", list(o, prices, n, e), list(o, prices, down(bound), api.OK))
		if !bound.IsInt() {
			parts++
		}
	}
	if parts < 500 {
		t.Errorf("too few bounds are rounded: %v", parts)
	}
}

// TestShownReasons checks example 3, and which reason counts.
func TestShownReasons(t *testing.T) {
	d := section("d", 9, 2, 9, 1)
	for i, x := range []struct {
		sections []plan.Section
		shifts   []plan.Shift
		reasons  []plan.Reason
	}{
		{shown().Sections, shown().Shifts, nil},
		{[]plan.Section{section("c", 2, 5, 0, 25)}, shown().Shifts, []plan.Reason{{Section: 0, Why: "day"}}},
		{[]plan.Section{section("c", 3, 5, 0, 25)}, shown().Shifts, nil},
		{[]plan.Section{section("d", 9, 7, 0, 1)}, shown().Shifts, []plan.Reason{{Section: 0, Why: "hours"}}},
		{[]plan.Section{section("d", 9, 6, 0, 1)}, shown().Shifts, nil},
		{[]plan.Section{section("d", 7, 6, 0, 1)}, shown().Shifts, []plan.Reason{{Section: 0, Why: "hours"}}},
		{[]plan.Section{section("d", 9, 7, 9, 1)}, shown().Shifts, []plan.Reason{{Section: 0, Why: "hours"}}},
		{[]plan.Section{d}, shown().Shifts, []plan.Reason{{Section: 0, Why: "ballast"}}},
		{[]plan.Section{section("d", 9, 2, 8, 1)}, shown().Shifts, nil},
		{[]plan.Section{section("d", 7, 2, 8, 1)}, shown().Shifts, []plan.Reason{{Section: 0, Why: "ballast"}}},
		{[]plan.Section{section("d", 2, 7, 9, 1)}, shown().Shifts, []plan.Reason{{Section: 0, Why: "day"}}},
		{[]plan.Section{section("d", 9, 6, 7, 1)}, []plan.Shift{shift(3, 5, 7, 0), shift(4, 6, 6, 0)}, []plan.Reason{{Section: 0, Why: "ballast"}}}, // one has the hours, one the tonnes
		{[]plan.Section{section("d", 9, 6, 7, 1)}, []plan.Shift{shift(3, 6, 6, 0), shift(4, 5, 7, 0)}, []plan.Reason{{Section: 0, Why: "ballast"}}},
		{[]plan.Section{section("d", 3, 6, 7, 1)}, []plan.Shift{shift(3, 5, 7, 0), shift(4, 6, 6, 0)}, []plan.Reason{{Section: 0, Why: "hours"}}},
		{[]plan.Section{d, section("e", 5, 1, 0, 0), section("f", 9, 8, 0, 0), section("g", 0, 1, 1, 1)}, shown().Shifts, []plan.Reason{{Section: 0, Why: "ballast"}, {Section: 2, Why: "hours"}, {Section: 3, Why: "day"}}},
		{[]plan.Section{d, section("e", 100000, 1, 0, 0)}, nil, []plan.Reason{{Section: 0, Why: "day"}, {Section: 1, Why: "day"}}},
		{nil, shown().Shifts, nil},
	} {
		l, e := plan.Late(plan.Office{Sections: x.sections, Shifts: x.shifts})
		want(t, "Late", list(i, l, e), list(i, x.reasons, api.OK))
	}
}

// reasonOf returns why a section is late by the definition, or nothing.
func reasonOf(o plan.Office, x plan.Section) string {
	isAfter := func(s plan.Shift) bool { return s.Day > x.Deadline }
	inTime := slices.DeleteFunc(slices.Clone(o.Shifts), isAfter)
	if slices.ContainsFunc(inTime, func(s plan.Shift) bool { return x.Work <= s.Hours && x.Ballast <= s.Ballast }) {
		return ""
	}
	if len(inTime) == 0 {
		return "day"
	}
	if !slices.ContainsFunc(inTime, func(s plan.Shift) bool { return x.Work <= s.Hours }) {
		return "hours"
	}
	return "ballast"
}

// TestLateByDefinition checks late sections against their definition.
func TestLateByDefinition(t *testing.T) {
	g := source(4)
	seen := map[string]int{}
	for range 2000 {
		o := someOffice(g, 7, 5)
		var late []plan.Reason
		for i, x := range o.Sections {
			why := reasonOf(o, x)
			seen[why]++
			if why != "" {
				late = append(late, plan.Reason{Section: i, Why: why})
			}
		}
		l, e := plan.Late(o)
		want(t, "Late", list(o, l, e), list(o, late, api.OK))
	}
	for _, why := range []string{"", "day", "hours", "ballast"} {
		if seen[why] < 300 {
			t.Errorf("too few sections with the reason %q: %v", why, seen[why])
		}
	}
}
