package plan_test

import (
	"math/big"
	"slices"
	"testing"

	"versine/api"
	"versine/plan"
)

// TestShownLifts checks example 4, and other lifts.
func TestShownLifts(t *testing.T) {
	for i, x := range []struct {
		levels, targets, lifts []int
		rules                  plan.Rules
		cost                   int
	}{
		{ints(0, 0, 0), ints(4, 4, 4), ints(2, 3, 2), rules(3, 2), 16},
		{ints(0, 0, 0), ints(4, 4, 4), ints(2, 2, 2), rules(3, 2), 18},
		{ints(0, 0, 0), ints(4, 4, 4), ints(0, 0, 0), rules(3, 2), 48},
		{ints(0, 0, 0), ints(4, 4, 4), ints(1, 3, 1), rules(3, 2), 24},
		{ints(5, -3), ints(1, 9), ints(0, 1), rules(12, 1), 138},
		{ints(5), ints(5), ints(0), rules(0, 1), 0},
		{ints(5), ints(5), ints(12), rules(12, 12), 156},
		{ints(-1000, 1000), ints(1000, -1000), ints(12, 12), rules(12, 12), 1988*1988 + 2012*2012 + 24},
		{constant(1000, 24), constant(-1000, 24), constant(12, 24), rules(12, 12), 24 * (2012*2012 + 12)},
	} {
		cost, e := plan.CheckLifts(x.levels, x.targets, x.lifts, x.rules)
		want(t, "CheckLifts", list(i, cost, e), list(i, x.cost, api.OK))
	}
}

// TestShownDesigns checks example 4, and which lifts of several are the best.
func TestShownDesigns(t *testing.T) {
	for i, x := range []struct {
		levels, targets []int
		rules           plan.Rules
		lifts           []int
		cost            int
	}{
		{ints(0, 0, 0), ints(4, 4, 4), rules(3, 2), ints(2, 3, 2), 16},
		{ints(0), ints(1), rules(3, 2), ints(0), 1},    // 1 costs as much
		{ints(7), ints(12), rules(12, 12), ints(4), 5}, // 5 costs as much
		{ints(7), ints(12), rules(12, 3), ints(3), 7},
		{ints(7), ints(12), rules(2, 12), ints(2), 11},
		{ints(7), ints(12), rules(0, 12), ints(0), 25},
		{ints(7), ints(2), rules(12, 12), ints(0), 25},
		{ints(0, 0), ints(1, 1), rules(3, 2), ints(0, 0), 2},
		{ints(0, 0), ints(12, 0), rules(12, 12), ints(11, 0), 12},
		{ints(0, 0), ints(12, 0), rules(12, 3), ints(3, 0), 84},
		{ints(0, 0, 0), ints(0, 12, 0), rules(12, 1), ints(1, 2, 1), 106},
		{ints(0, 0, 0), ints(0, 4, 0), rules(12, 2), ints(0, 2, 0), 6}, // 1, 3, 1 costs 8
		{ints(0, 0, 0, 0), ints(9, -9, 9, -9), rules(12, 1), ints(1, 0, 1, 0), 292},
		{constant(0, 24), constant(1, 24), rules(12, 1), constant(0, 24), 24},
		{constant(-1000, 24), constant(1000, 24), rules(12, 12), constant(12, 24), 24 * (1988*1988 + 12)},
		{constant(1000, 24), constant(-1000, 24), rules(12, 12), constant(0, 24), 24 * 2000 * 2000},
		{constant(0, 24), constant(20, 24), rules(12, 1), ints(1, 2, 3, 4, 5, 6, 7, 8, 9, 10, 11, 12, 12, 11, 10, 9, 8, 7, 6, 5, 4, 3, 2, 1), 4816},
	} {
		lifts, cost, e := plan.Design(x.levels, x.targets, x.rules)
		want(t, "Design", list(i, lifts, cost, e), list(i, x.lifts, x.cost, api.OK))
	}
}

// isPermitted reports whether rules permit lifts, by their definition.
func isPermitted(l []int, r plan.Rules) bool {
	for i, lift := range l {
		if lift < 0 || lift > r.Most {
			return false
		}
		if i > 0 && (l[i-1]-lift > r.Ramp || lift-l[i-1] > r.Ramp) {
			return false
		}
	}
	return l[0] <= r.Ramp && l[len(l)-1] <= r.Ramp
}

// costOf returns the cost of lifts by its definition.
func costOf(c course, l []int) int {
	cost := 0
	for i, lift := range l {
		missing := c.targets[i] - c.levels[i] - lift
		cost += missing * missing
	}
	for _, lift := range l {
		cost += lift
	}
	return cost
}

// TestLiftsByDefinition checks all lifts of short courses.
func TestLiftsByDefinition(t *testing.T) {
	g := source(10)
	permitted, ties := 0, 0
	for range 400 {
		c := someCourse(g, 5, 4)
		var best []int
		least, equal := 0, 0
		for l := range lists(len(c.levels), 0, c.rules.Most) {
			cost, e := plan.CheckLifts(c.levels, c.targets, l, c.rules)
			if !isPermitted(l, c.rules) {
				want(t, "CheckLifts", list(c, l, cost, e), list(c, l, 0, api.ErrRule))
				continue
			}
			permitted++
			want(t, "CheckLifts", list(c, l, cost, e), list(c, l, costOf(c, l), api.OK))
			switch {
			case best == nil || cost < least:
				best, least, equal = slices.Clone(l), cost, 0
			case cost == least:
				equal++
			}
		}
		ties += min(equal, 1)
		l, cost, e := plan.Design(c.levels, c.targets, c.rules)
		want(t, "Design", list(c, l, cost, e), list(c, best, least, api.OK))
		other, otherCost := leastOf(c)
		want(t, "leastOf", list(c, other, otherCost), list(c, best, least))
	}
	if permitted < 5000 || ties < 100 {
		t.Errorf("too few lifts: %v are permitted, %v courses have several best ones", permitted, ties)
	}
}

// leastOf returns the best lifts, and their cost: the first of the least beginnings that end with each lift go on.
func leastOf(c course) ([]int, int) {
	beginnings := map[int][]int{0: nil}
	for range c.levels {
		next := map[int][]int{}
		for before := range c.rules.Most + 1 {
			l, isThere := beginnings[before]
			if !isThere {
				continue
			}
			for lift := range c.rules.Most + 1 {
				longer := append(slices.Clone(l), lift)
				if lift-before > c.rules.Ramp || before-lift > c.rules.Ramp {
					continue
				}
				if other, isThere := next[lift]; !isThere || isLess(c, longer, other) {
					next[lift] = longer
				}
			}
		}
		beginnings = next
	}
	var best []int
	for lift := range min(c.rules.Ramp, c.rules.Most) + 1 {
		if l, isThere := beginnings[lift]; isThere && (best == nil || isLess(c, l, best)) {
			best = l
		}
	}
	return best, costOf(c, best)
}

// isLess reports whether lifts of as many columns cost less, or as much and are the first ones.
func isLess(c course, a, b []int) bool {
	if x, y := costOf(c, a), costOf(c, b); x != y {
		return x < y
	}
	return slices.Compare(a, b) < 0
}

// TestLongCourses checks designs of up to as many columns as there may be.
func TestLongCourses(t *testing.T) {
	g := source(11)
	steep := 0
	for range 150 {
		c := someCourse(g, 24, 12)
		l, cost, e := plan.Design(c.levels, c.targets, c.rules)
		best, least := leastOf(c)
		want(t, "Design", list(c, l, cost, e), list(c, best, least, api.OK))
		if c.rules.Ramp < slices.Max(l) {
			steep++
		}
	}
	if steep < 30 {
		t.Errorf("too few courses with ramps: %v", steep)
	}
}

// TestLifted checks example 4, and levels above and below all others.
func TestLifted(t *testing.T) {
	for i, x := range [][3][]int{
		{ints(0, 0, 0), ints(2, 3, 2), ints(2, 3, 2)},
		{ints(5, 6, 7), ints(0, 12, 0), ints(5, 18, 7)}, // no rules hold here
		{ints(-1000, 1000), ints(12, 12), ints(-988, 1012)},
		{ints(-7), ints(7), ints(0)},
		{constant(1000, 24), constant(12, 24), constant(1012, 24)},
	} {
		l, e := plan.Lifted(x[0], x[1])
		want(t, "Lifted", list(i, l, e), list(i, x[2], api.OK))
	}
}

// TestBallast checks example 4, and that tonnes are rounded up.
func TestBallast(t *testing.T) {
	for i, x := range []struct {
		lifts  []int
		rate   api.Ratio
		tonnes int
	}{
		{ints(2, 3, 2), ratio(1, 2), 4}, {ints(2, 2, 2), ratio(1, 2), 3}, {ints(1), ratio(1, 999999999), 1}, {ints(0, 0), ratio(999999999, 1), 0}, {nil, ratio(1, 2), 0}, {ints(12, 5), ratio(0, 1), 0},
		{ints(12, 0, 12), ratio(5, 1), 120}, {constant(12, 24), ratio(1, 1), 288}, {constant(12, 24), ratio(1, 289), 1}, {constant(12, 24), ratio(1, 287), 2}, {constant(12, 24), ratio(999999999, 289), 996539792},
		{ints(1), ratio(999999999, 1), 999999999}, {ints(1), ratio(999999999, 999999998), 2}, {ints(12), ratio(83333333, 1), 999999996},
	} {
		n, e := plan.Ballast(x.lifts, x.rate)
		want(t, "Ballast", list(i, n, e), list(i, x.tonnes, api.OK))
	}
	g := source(12)
	large := 0
	for range 3000 {
		l, rate := numbers(g, g.IntN(25), 0, between(g, 0, 12)), ratio(g.IntN(1<<between(g, 1, 29)), 1)
		rate, _ = ratioOf(fraction(rate.Num, between(g, 1, 1<<g.IntN(12))))
		sum := 0
		for _, lift := range l {
			sum += lift
		}
		tonnes := -down(new(big.Rat).Neg(times(rat(rate), whole(sum))))
		if exact := times(rat(rate), whole(sum)); !exact.IsInt() {
			tonnes = down(exact) + 1
		}
		n, e := plan.Ballast(l, rate)
		if tonnes > 999999999 {
			large++
			want(t, "Ballast", list(l, rate, n, e), list(l, rate, 0, api.ErrLarge))
			continue
		}
		want(t, "Ballast", list(l, rate, n, e), list(l, rate, tonnes, api.OK))
	}
	if large < 20 {
		t.Errorf("too few lifts need too much: %v", large)
	}
}
