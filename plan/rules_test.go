package plan_test

import (
	"math"
	"math/rand/v2"
	"reflect"
	"slices"
	"testing"

	"versine/api"
	"versine/plan"
)

// guarded returns a list with room behind it, and whether nobody wrote into it or its room.
func guarded[T any](l []T, guard T) ([]T, func() bool) {
	room := append(slices.Clone(l), guard, guard, guard)
	before := slices.Clone(room)
	return room[:len(l)], func() bool { return same(reflect.ValueOf(room), reflect.ValueOf(before)) }
}

// guard makes all lists of arguments guarded ones, and returns whether all of them are the same.
func (x *given) guard() func() bool {
	var areSame []func() bool
	add := func(isSame func() bool) { areSame = append(areSame, isSame) }
	for _, l := range []*[]int{&x.plan, &x.levels, &x.targets, &x.lifts, &x.free, &x.filled, &x.heats, &x.days} {
		numbers, isSame := guarded(*l, 99)
		*l = numbers
		add(isSame)
	}
	sections, isSame := guarded(x.office.Sections, section("guard", 1, 1, 1, 1))
	x.office.Sections = sections
	add(isSame)
	shifts, isSame := guarded(x.office.Shifts, shift(99, 1, 1, 1))
	x.office.Shifts = shifts
	add(isSame)
	prices, isSame := guarded(x.prices, ratio(98, 99))
	x.prices = prices
	add(isSame)
	rails, isSame := guarded(x.rails, rail(99, 1, 1))
	x.rails = rails
	add(isSame)
	x.jobs = slices.Clone(x.jobs)
	for i := range x.jobs {
		after, isSame := guarded(x.jobs[i].After, "guard")
		x.jobs[i].After = after
		add(isSame)
	}
	jobs, isSame := guarded(x.jobs, job("guard", "tamp"))
	x.jobs = jobs
	add(isSame)
	return func() bool {
		return !slices.ContainsFunc(areSame, func(isSame func() bool) bool { return !isSame() })
	}
}

// spoil writes over all elements of the lists of a value, and of what is behind them within their room.
func spoil(v reflect.Value) {
	switch v.Kind() {
	case reflect.Slice:
		whole := v.Slice(0, v.Cap())
		for i := range whole.Len() {
			spoil(whole.Index(i))
			whole.Index(i).SetZero()
		}
	case reflect.Struct:
		for i := range v.NumField() {
			spoil(v.Field(i))
		}
	case reflect.Interface:
		spoil(v.Elem())
	}
}

// TestNoMemoryIsShared checks of all functions that the arguments stay, and that results are new memory.
func TestNoMemoryIsShared(t *testing.T) {
	for _, c := range calls() {
		x := shownGiven()
		areSame := x.guard()
		first, again, last := c.f(x), c.f(x), c.f(shownGiven())
		spoil(reflect.ValueOf(first))
		want(t, c.name+" and its arguments", list(areSame()), list(true))
		want(t, c.name+" again", again, last)
		for _, l := range []any{x.office, x.plan, x.prices, x.levels, x.targets, x.lifts, x.free, x.filled, x.rails, x.jobs, x.heats, x.days} {
			spoil(reflect.ValueOf(l))
		}
		want(t, c.name+" of spoiled arguments", again, last)
	}
	o, _, _ := plan.Parse(shownText)
	spoil(reflect.ValueOf(o))
	o, line, e := plan.Parse(shownText)
	want(t, "Parse again", list(o, line, e), list(shown(), 0, api.OK))
}

func anyInt(g *rand.Rand) int {
	return oneOf(g, []int{math.MinInt, math.MinInt + 1, -1000001, -1000000, -1001, -1000, -2, -1, 0, 0, 1, 1, 2, 3, 5, 7, 8, 11, 12, 13, 24, 25, 260, 1000, 1001, 10000, 10001, 100000, 100001, 1000000, 1000001, 999999999, 1000000000, math.MaxInt - 1, math.MaxInt})
}

func anyInts(g *rand.Rand, n int) []int {
	return anyList(g, n, func() int { return anyInt(g) })
}

func anyName(g *rand.Rand) string {
	return oneOf(g, []string{"", "a", "b", "n00", "n01", "9", "\xff"})
}

func anyRatio(g *rand.Rand) api.Ratio { return ratio(anyInt(g), anyInt(g)) }

// anyList returns a few elements of any form.
func anyList[T any](g *rand.Rand, n int, element func() T) []T {
	var l []T
	for range g.IntN(n) {
		l = append(l, element())
	}
	return l
}

func anyOffice(g *rand.Rand) plan.Office {
	switch g.IntN(6) {
	case 0:
		return oneOf(g, badOffices()).x
	case 1:
		return plan.Office{
			Sections: anyList(g, 10, func() plan.Section { return section(anyName(g), anyInt(g), anyInt(g), anyInt(g), anyInt(g)) }),
			Shifts:   anyList(g, 8, func() plan.Shift { return shift(anyInt(g), anyInt(g), anyInt(g), anyInt(g)) }),
		}
	}
	return someOffice(g, 5, 4)
}

func anyRails(g *rand.Rand) []plan.Rail {
	switch g.IntN(6) {
	case 0:
		return oneOf(g, badRailLists()).x
	case 1:
		return anyList(g, 10, func() plan.Rail { return rail(anyInt(g), anyInt(g), anyInt(g)) })
	}
	return anyList(g, 5, func() plan.Rail { r, _, _ := someRail(g); return r })
}

func anyJobs(g *rand.Rand) []plan.Job {
	switch g.IntN(6) {
	case 0:
		return oneOf(g, badJobs()).x
	case 1:
		return anyList(g, 10, func() plan.Job {
			return plan.Job{Name: anyName(g), Kind: oneOf(g, append(kinds(), "")), After: anyList(g, 10, func() string { return anyName(g) })}
		})
	}
	return someJobs(g, 6)
}

func anyText(g *rand.Rand) string {
	s := oneOf(g, []string{"", shownText, shownText, "section d 1 2 3 4\n", "section d 1 2 3 4\nshift 7 "})
	for range g.IntN(4) {
		s += oneOf(g, []string{"section", "shift", "section e 1 2 3 4\n", "shift 60 5 5 5\n", "shift 1 1001 1 1\n", "section 9 1 2 3 4\n", "70", "0", "1", "-1", "01", "9999999999", "", " ", "\n", "\n", "\xff", "\x00", "é"})
		s += oneOf(g, []string{"", "", " "})
	}
	return s
}

// anyGiven returns arguments of any form, of which some fit together.
func anyGiven(g *rand.Rand) given {
	x := shownGiven()
	x.office, x.rails, x.jobs, x.text = anyOffice(g), anyRails(g), anyJobs(g), anyText(g)
	x.plan, x.prices = somePlan(g, x.office), somePrices(g, x.office)
	c := someCourse(g, 24, 12)
	x.levels, x.targets, x.rules = c.levels, c.targets, c.rules
	x.lifts = someLifts(g, len(c.levels), c.rules)
	x.free, x.filled = numbers(g, len(c.levels), 0, 12), numbers(g, g.IntN(25), 0, 12)
	x.rate, _ = ratioOf(fraction(g.IntN(9), between(g, 1, 9)))
	x.rail, x.growth, x.band = someRail(g)
	x.length, x.heat = x.rail.Length, x.rail.Heat
	x.heats = numbers(g, between(g, 1, 12), x.band.Low, min(x.band.High+5, 1000))
	x.days = numbers(g, len(x.jobs), 0, len(x.heats)-1)
	if g.IntN(2) == 0 {
		slices.Sort(x.days)
	}
	for _, l := range []*[]int{&x.plan, &x.levels, &x.targets, &x.lifts, &x.free, &x.filled, &x.heats, &x.days} {
		if g.IntN(16) == 0 {
			*l = anyInts(g, 30)
		}
	}
	for _, n := range []*int{&x.rules.Most, &x.rules.Ramp, &x.rate.Num, &x.rate.Den, &x.rail.Extension, &x.growth, &x.band.Low, &x.band.High, &x.length, &x.heat} {
		if g.IntN(24) == 0 {
			*n = anyInt(g)
		}
	}
	if g.IntN(12) == 0 {
		x.prices = anyList(g, 7, func() api.Ratio { return anyRatio(g) })
	}
	return x
}

// results returns the results of all functions for these arguments.
func (x given) results() []any {
	var results []any
	for _, c := range calls() {
		results = append(results, c.f(x)...)
	}
	o, line, e := plan.Parse(x.text)
	return append(results, o, line, e)
}

// TestAnyArguments checks that no function panics or does not terminate, that each returns the same results again, and that none changes its arguments.
func TestAnyArguments(t *testing.T) {
	for seed := range uint64(4000) {
		x := anyGiven(source(seed))
		want(t, "results again", list(seed, x.results()), list(seed, x.results()))
		if untouched := anyGiven(source(seed)); !same(reflect.ValueOf(x), reflect.ValueOf(untouched)) {
			t.Errorf("arguments %v: got %v, want %v", seed, x, untouched)
		}
	}
}

// TestHugeArguments checks that lists of many elements are refused.
func TestHugeArguments(t *testing.T) {
	const many = 200000
	sections := constant(section("a", 1, 1, 1, 1), many)
	jobs := constant(job("a", "tamp"), many)
	needy := []plan.Job{job("a", "tamp", constant("a", many)...)}
	numbers := constant(0, many)
	want(t, "CheckOffice", list(plan.CheckOffice(plan.Office{Sections: sections, Shifts: constant(shift(1, 1, 1, 1), many)})), list(api.ErrMany))
	want(t, "CheckOffice", list(plan.CheckOffice(plan.Office{Shifts: constant(shift(1, 1, 1, 1), many)})), list(api.ErrMany))
	want(t, "CheckJobs", list(plan.CheckJobs(jobs), plan.CheckJobs(needy)), list(api.ErrMany, api.ErrMany))
	_, e := plan.CheckPlan(shown(), numbers)
	_, f := plan.Ballast(numbers, ratio(1, 1))
	_, h := plan.CheckSequence(site(), shownHeats(), shownBand(), numbers)
	want(t, "long lists", list(e, f, h), list(api.ErrShape, api.ErrMany, api.ErrShape))
	_, _, e = plan.Design(numbers, numbers, rules(3, 2))
	_, f = plan.Joined(constant(shownRail(), many), 1)
	_, _, h = plan.Sequenced(site(), numbers, shownBand())
	want(t, "long lists", list(e, f, h), list(api.ErrMany, api.ErrMany, api.ErrMany))
}

// TestZeroBesideErrors checks that beside an error every other result is its zero value, and that all results are well-formed otherwise.
func TestZeroBesideErrors(t *testing.T) {
	g := source(60)
	right := map[string]int{}
	for range 4000 {
		x := anyGiven(g)
		for _, c := range calls() {
			results := c.f(x)
			if e := results[len(results)-1].(api.Errno); e != api.OK {
				checkError(t, c.name, results, e)
				continue
			}
			right[c.name]++
			checkForm(t, c.name, results)
		}
		o, line, e := plan.Parse(x.text)
		switch {
		case e == api.OK:
			right["Parse"]++
			want(t, "Parse", list(line, plan.CheckOffice(o)), list(0, api.OK))
		default:
			want(t, "Parse beside an error", list(o), list(plan.Office{}))
		}
	}
	for _, c := range calls() {
		if right[c.name] < 100 {
			t.Errorf("too few results of %v: %v", c.name, right[c.name])
		}
	}
	if right["Parse"] < 100 {
		t.Errorf("too few texts are parsed: %v", right["Parse"])
	}
}

// checkForm checks that results without an error are well-formed.
func checkForm(t *testing.T, name string, results []any) {
	t.Helper()
	for _, result := range results {
		isRight := true
		switch y := result.(type) {
		case api.Ratio:
			lowest, isFit := ratioOf(rat(y))
			isRight = y.Den > 0 && isFit && lowest == y
		case []plan.Reason:
			isRight = !slices.ContainsFunc(y, func(r plan.Reason) bool { return !slices.Contains([]string{"day", "hours", "ballast"}, r.Why) })
		case [][2]int:
			isRight = !slices.ContainsFunc(y, func(x [2]int) bool { return x[0] < 0 || x[1] < 0 })
		case int:
			isRight = y >= 0
		}
		want(t, name+" is well-formed", list(result, isRight), list(result, true))
	}
}
