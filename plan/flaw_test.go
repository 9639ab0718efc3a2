package plan_test

import (
	"math"
	"slices"
	"strings"

	"versine/api"
	"versine/plan"
)

// badNames returns strings that are no names.
func badNames() []string {
	return []string{"", "9", "_a", "a b", "a\n", "é", "a-", strings.Repeat("a", 25)}
}

// misnamed returns flaws that set a name to what is none.
func misnamed[T any](field func(x *T) *string) []flaw[T] {
	var l []flaw[T]
	for _, s := range badNames() {
		l = append(l, flaw[T]{api.ErrName, func(x *T) { *field(x) = s }})
	}
	return l
}

// badOffices returns offices of the shape of O with each error.
func badOffices() []bad[plan.Office] {
	type o = plan.Office
	flaws := []flaw[o]{
		{api.ErrMany, func(x *o) { x.Sections = make([]plan.Section, 8) }},
		{api.ErrMany, func(x *o) { x.Shifts = make([]plan.Shift, 6) }},
	}
	for i, before := range ints(-1, 0, 1) {
		flaws = append(flaws, misnamed(func(x *o) *string { return &x.Sections[i].Name })...)
		if before >= 0 {
			flaws = append(flaws,
				flaw[o]{api.ErrTwice, func(x *o) { x.Sections[i].Name = x.Sections[before].Name }},
				flaw[o]{api.ErrTwice, func(x *o) { x.Sections[i].Name = x.Sections[0].Name }},
			)
		}
		flaws = append(flaws, outside(func(x *o) *int { return &x.Sections[i].Deadline }, 0, 100000)...)
		flaws = append(flaws, outside(func(x *o) *int { return &x.Sections[i].Work }, 1, 1000)...)
		flaws = append(flaws, outside(func(x *o) *int { return &x.Sections[i].Ballast }, 0, 10000)...)
		flaws = append(flaws, outside(func(x *o) *int { return &x.Sections[i].Value }, 0, 1000000)...)
	}
	for i := range 2 {
		flaws = append(flaws, outside(func(x *o) *int { return &x.Shifts[i].Day }, 0, 100000)...)
		flaws = append(flaws, outside(func(x *o) *int { return &x.Shifts[i].Hours }, 0, 1000)...)
		flaws = append(flaws, outside(func(x *o) *int { return &x.Shifts[i].Ballast }, 0, 10000)...)
		flaws = append(flaws, outside(func(x *o) *int { return &x.Shifts[i].Rate }, 0, 1000)...)
	}
	flaws = append(flaws, flaw[o]{api.ErrOrder, func(x *o) { x.Shifts[1].Day = 2 }}, flaw[o]{api.ErrOrder, func(x *o) { x.Shifts[0].Day = 9 }})
	return append(spoiled(shown, flaws),
		bad[o]{o{Sections: manySections(8)}, api.ErrMany},
		bad[o]{o{Shifts: manyShifts(6)}, api.ErrMany},
		bad[o]{o{Sections: append(manySections(6), section("n00", 5, 0, 0, 0))}, api.ErrTwice},
		bad[o]{o{Sections: []plan.Section{section("a", 5, 0, 0, 0), section("a", 5, 1, 0, 0)}}, api.ErrRange},
		bad[o]{o{Shifts: []plan.Shift{shift(5, 0, 0, 0), shift(9, 0, 0, 0), shift(8, 0, 0, 0), shift(0, -1, 0, 0)}}, api.ErrOrder},
		bad[o]{o{Shifts: []plan.Shift{shift(5, 0, 0, 0), shift(4, -1, 0, 0)}}, api.ErrRange},
	)
}

// badPlans returns plans for O with each error that one for it can have.
func badPlans() []bad[[]int] {
	return []bad[[]int]{
		{nil, api.ErrShape}, {ints(1, -1), api.ErrShape}, {ints(1, -1, 0, -1), api.ErrShape}, {ints(9, 9), api.ErrShape},
		{ints(-2, -1, 0), api.ErrUnknown}, {ints(2, -1, 0), api.ErrUnknown}, {ints(1, math.MinInt, 0), api.ErrUnknown}, {ints(1, -1, math.MaxInt), api.ErrUnknown},
		{ints(1, 1, 2), api.ErrUnknown}, {ints(1, 5, 1), api.ErrUnknown},
		{ints(-1, -1, 1), api.ErrOver}, {ints(1, -1, 1), api.ErrOver}, {ints(1, 1, 1), api.ErrOver}, {ints(0, 0, 1), api.ErrOver},
		{ints(1, 1, -1), api.ErrLarge}, {ints(0, 0, -1), api.ErrLarge}, {ints(-1, 0, 0), api.ErrLarge}, {ints(0, -1, 0), api.ErrLarge},
	}
}

// unfit returns ratios with each error of sample.CheckRatio, and ErrRange for some below 0.
func unfit() []bad[api.Ratio] {
	return []bad[api.Ratio]{
		{ratio(1000000000, 2), api.ErrRange}, {ratio(math.MinInt, 1), api.ErrRange}, {ratio(math.MaxInt, 1), api.ErrRange},
		{ratio(1, 0), api.ErrRange}, {ratio(1, -1), api.ErrRange}, {ratio(2, 1000000000), api.ErrRange}, {ratio(0, 0), api.ErrRange}, {ratio(2, math.MinInt), api.ErrRange},
		{ratio(2, 4), api.ErrForm}, {ratio(0, 2), api.ErrForm}, {ratio(-2, 4), api.ErrForm}, {ratio(-26, 13), api.ErrForm},
		{ratio(-1, 1), api.ErrRange}, {ratio(-1, 13), api.ErrRange}, {ratio(-999999999, 7), api.ErrRange},
	}
}

// shownPrices returns prices for O.
func shownPrices() []api.Ratio { return []api.Ratio{ratio(5, 1), ratio(11, 2)} }

// badPrices returns prices for O with each error.
func badPrices() []bad[[]api.Ratio] {
	type l = []api.Ratio
	flaws := []flaw[l]{
		{api.ErrShape, func(x *l) { *x = nil }},
		{api.ErrShape, func(x *l) { *x = constant(ratio(1, 0), 1) }},
		{api.ErrShape, func(x *l) { *x = constant(ratio(1, 0), 3) }},
	}
	for i := range 2 {
		for _, b := range unfit() {
			flaws = append(flaws, flaw[l]{b.e, func(x *l) { (*x)[i] = b.x }})
		}
	}
	return append(spoiled(shownPrices, flaws),
		bad[l]{l{ratio(1, 13), ratio(5, 1)}, api.ErrLarge},
		bad[l]{l{ratio(5, 1), ratio(1, 13)}, api.ErrLarge},
		bad[l]{l{ratio(5, 1), ratio(2, 999999999)}, api.ErrLarge},
		bad[l]{l{ratio(5, 13), ratio(-1, 1)}, api.ErrRange},
		bad[l]{l{ratio(5, 13), ratio(2, 4)}, api.ErrForm},
	)
}

// badRates returns rates with each error.
func badRates() []bad[api.Ratio] { return unfit() }

// badLevels returns levels with each error, badTargets targets for three levels.
func badLevels() []bad[[]int] {
	l := []bad[[]int]{{nil, api.ErrEmpty}, {constant(1001, 25), api.ErrMany}, {constant(0, 25), api.ErrMany}, {constant(0, 1000), api.ErrMany}}
	for _, n := range beyond(-1000, 1000) {
		l = append(l, bad[[]int]{ints(n, 0, 0), api.ErrRange}, bad[[]int]{ints(0, 0, n), api.ErrRange}, bad[[]int]{ints(0, n), api.ErrRange})
	}
	return l
}

func badTargets() []bad[[]int] {
	return append(badLevels(), bad[[]int]{ints(4, 4), api.ErrShape}, bad[[]int]{ints(4, 4, 4, 4), api.ErrShape}, bad[[]int]{constant(0, 24), api.ErrShape})
}

// badRules returns rules with each error.
func badRules() []bad[plan.Rules] {
	type r = plan.Rules
	return spoiled(func() r { return rules(3, 2) }, slices.Concat(
		outside(func(x *r) *int { return &x.Most }, 0, 12),
		outside(func(x *r) *int { return &x.Ramp }, 1, 12),
	))
}

// badLifts returns lifts of three columns with each error, where Most is 3 and Ramp is 2.
func badLifts() []bad[[]int] {
	l := []bad[[]int]{{nil, api.ErrShape}, {ints(2, 4), api.ErrShape}, {ints(2, 3, 2, 0), api.ErrShape}, {constant(0, 25), api.ErrShape}}
	for _, n := range beyond(0, 3) {
		l = append(l, bad[[]int]{ints(n, 3, 3), api.ErrRange}, bad[[]int]{ints(3, 0, n), api.ErrRange}, bad[[]int]{ints(2, n, 2), api.ErrRange})
	}
	for _, lifts := range [][]int{{3, 3, 2}, {3, 2, 1}, {2, 3, 3}, {0, 1, 3}, {0, 3, 2}, {2, 3, 0}, {1, 2, 3}, {3, 0, 0}, {0, 0, 3}, {0, 3, 0}, {3, 3, 3}} {
		l = append(l, bad[[]int]{lifts, api.ErrRule})
	}
	return l
}

// badFreeLifts returns lifts of three columns with each error, without rules.
func badFreeLifts() []bad[[]int] {
	l := []bad[[]int]{{nil, api.ErrShape}, {ints(2, 13), api.ErrShape}, {ints(2, 3, 2, -1), api.ErrShape}}
	for _, n := range beyond(0, 12) {
		l = append(l, bad[[]int]{ints(n, 3, 3), api.ErrRange}, bad[[]int]{ints(3, 0, n), api.ErrRange})
	}
	return l
}

// badLiftLists returns lists of lifts with each error.
func badLiftLists() []bad[[]int] {
	l := []bad[[]int]{{constant(0, 25), api.ErrMany}, {constant(-1, 25), api.ErrMany}, {constant(0, 1000), api.ErrMany}}
	for _, n := range beyond(0, 12) {
		l = append(l, bad[[]int]{ints(n), api.ErrRange}, bad[[]int]{append(constant(3, 23), n), api.ErrRange})
	}
	return l
}

// shownRail returns the rail of example 5.
func shownRail() plan.Rail { return rail(1000, 150, 2) }

// badRails returns rails with each error.
func badRails() []bad[plan.Rail] {
	type r = plan.Rail
	return append(spoiled(shownRail, slices.Concat(
		outside(func(x *r) *int { return &x.Length }, 1, 1000000),
		outside(func(x *r) *int { return &x.Heat }, -1000, 1000),
		outside(func(x *r) *int { return &x.Extension }, 0, 1000),
	)), bad[r]{r{}, api.ErrRange}, bad[r]{rail(1, 0, 2), api.ErrRange}, bad[r]{rail(1000000, 0, 1000001), api.ErrRange}, bad[r]{rail(-5, 0, -5), api.ErrRange})
}

// badBands returns bands with each error.
func badBands() []bad[api.Interval] {
	type i = api.Interval
	return append(spoiled(shownBand, append(slices.Concat(
		outside(func(x *i) *int { return &x.Low }, -1000, 1000),
		outside(func(x *i) *int { return &x.High }, -1000, 1000),
	), flaw[i]{api.ErrOrder, func(x *i) { x.High = 239 }}, flaw[i]{api.ErrOrder, func(x *i) { x.Low = 261 }})),
		bad[i]{interval(1000, -1000), api.ErrOrder}, bad[i]{interval(1001, 240), api.ErrRange})
}

// shownRails returns the rails of example 5 that are welded together.
func shownRails() []plan.Rail { return []plan.Rail{shownRail(), rail(3000, 230, 0)} }

// badRailLists returns lists of rails with each error.
func badRailLists() []bad[[]plan.Rail] {
	type l = []plan.Rail
	list := []bad[l]{{nil, api.ErrEmpty}, {make(l, 9), api.ErrMany}, {manyRails(9), api.ErrMany}}
	for _, b := range badRails() {
		list = append(list, bad[l]{l{shownRail(), b.x}, b.e}, bad[l]{l{b.x, {}}, b.e}, bad[l]{append(manyRails(7), b.x), b.e})
	}
	return list
}

// badJobs returns jobs with each error.
func badJobs() []bad[[]plan.Job] {
	type l = []plan.Job
	flaws := []flaw[l]{{api.ErrMany, func(x *l) { *x = make(l, 9) }}}
	for i, before := range ints(-1, 0, 1) {
		flaws = append(flaws, misnamed(func(x *l) *string { return &(*x)[i].Name })...)
		if before >= 0 {
			flaws = append(flaws, flaw[l]{api.ErrTwice, func(x *l) { (*x)[i].Name = (*x)[before].Name }})
		}
		for _, kind := range []string{"", "Tamp", "tamp ", "tamping", "section", "\xff"} {
			flaws = append(flaws, flaw[l]{api.ErrKind, func(x *l) { (*x)[i].Kind = kind }})
		}
		flaws = append(flaws, flaw[l]{api.ErrMany, func(x *l) { (*x)[i].After = constant("x", 9) }})
	}
	for i, after := range [][][]string{{{"x"}, {""}, {"t", "x"}}, {{"x", "t", "t"}, {"t", "x"}, {"T"}}, {{"w", "t", "x", "t"}}} {
		for _, names := range after {
			flaws = append(flaws, flaw[l]{api.ErrUnknown, func(x *l) { (*x)[i].After = names }})
		}
		flaws = append(flaws,
			flaw[l]{api.ErrTwice, func(x *l) { (*x)[i].After = []string{"w", "w"} }},
			flaw[l]{api.ErrTwice, func(x *l) { (*x)[i].After = []string{"w", "t", "w", "x"} }},
		)
	}
	flaws = append(flaws,
		flaw[l]{api.ErrCycle, func(x *l) { (*x)[0].After = []string{"t"} }},
		flaw[l]{api.ErrCycle, func(x *l) { (*x)[2].After = []string{"t", "g"} }},
		flaw[l]{api.ErrCycle, func(x *l) { (*x)[0].After = []string{"w"} }},
		flaw[l]{api.ErrCycle, func(x *l) { (*x)[0].After = []string{"g"} }},
	)
	return append(spoiled(site, flaws), bad[l]{manyJobs(9), api.ErrMany}, bad[l]{append(manyJobs(7), job("n00", "x")), api.ErrTwice})
}

// badHeats returns temperatures of days with each error.
func badHeats() []bad[[]int] {
	l := []bad[[]int]{{nil, api.ErrEmpty}, {constant(0, 13), api.ErrMany}, {constant(1001, 13), api.ErrMany}}
	for _, n := range beyond(-1000, 1000) {
		l = append(l, bad[[]int]{ints(n, 0, 0), api.ErrRange}, bad[[]int]{ints(0, 0, n), api.ErrRange}, bad[[]int]{append(constant(0, 11), n), api.ErrRange})
	}
	return l
}

// badDays returns days for the jobs of example 6 with each error that these can have.
func badDays() []bad[[]int] {
	return []bad[[]int]{
		{nil, api.ErrShape}, {ints(0, 2), api.ErrShape}, {ints(0, 2, 3, 3), api.ErrShape}, {ints(9, 9), api.ErrShape},
		{ints(-1, 2, 3), api.ErrUnknown}, {ints(0, 2, 4), api.ErrUnknown}, {ints(0, math.MinInt, 3), api.ErrUnknown}, {ints(0, 2, math.MaxInt), api.ErrUnknown}, {ints(2, 2, 4), api.ErrUnknown},
		{ints(2, 2, 3), api.ErrOrder}, {ints(3, 2, 3), api.ErrOrder}, {ints(0, 2, 2), api.ErrOrder}, {ints(0, 2, 0), api.ErrOrder}, {ints(1, 1, 3), api.ErrOrder}, {ints(2, 1, 1), api.ErrOrder},
		{ints(0, 1, 3), api.ErrBand}, {ints(0, 1, 2), api.ErrBand}, {ints(0, 1, 1), api.ErrBand}, {ints(0, 1, 0), api.ErrBand},
	}
}
