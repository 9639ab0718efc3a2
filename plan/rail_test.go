package plan_test

import (
	"math/big"
	"math/rand/v2"
	"testing"

	"versine/api"
	"versine/plan"
)

// TestCheckRail checks rails without an error, and with each one.
func TestCheckRail(t *testing.T) {
	for i, r := range []plan.Rail{
		shownRail(), rail(1, 0, 0), rail(1, 0, 1), rail(1000000, 1000, 1000000), rail(1000000, -1000, 0), rail(5, -7, 3),
	} {
		want(t, "CheckRail", list(i, plan.CheckRail(r)), list(i, api.OK))
	}
	for i, b := range badRails() {
		want(t, "CheckRail", list(i, plan.CheckRail(b.x)), list(i, b.e))
	}
}

// TestShownRails checks example 5, and the ends of bands.
func TestShownRails(t *testing.T) {
	for i, x := range []struct {
		rail    plan.Rail
		growth  int
		neutral api.Ratio
		band    api.Interval
		is      bool
	}{
		{shownRail(), 50000, ratio(250, 1), interval(240, 260), true},
		{shownRail(), 50000, ratio(250, 1), interval(250, 250), true},
		{shownRail(), 50000, ratio(250, 1), interval(251, 1000), false},
		{shownRail(), 50000, ratio(250, 1), interval(-1000, 249), false},
		{rail(900, 150, 2), 50000, ratio(2350, 9), interval(240, 260), false}, // 261 and a ninth
		{rail(900, 150, 2), 50000, ratio(2350, 9), interval(240, 261), false},
		{rail(900, 150, 2), 50000, ratio(2350, 9), interval(240, 262), true},
		{rail(900, 150, 2), 50000, ratio(2350, 9), interval(261, 262), true},
		{rail(900, 150, 2), 50000, ratio(2350, 9), interval(262, 262), false},
		{rail(3, -7, 1), 1, ratio(-20, 3), interval(-6, 5), false}, // -6 and two thirds
		{rail(3, -7, 1), 1, ratio(-20, 3), interval(-7, -6), true},
		{rail(3, -7, 1), 1, ratio(-20, 3), interval(-1000, -7), false},
		{rail(1, 0, 0), 1, ratio(0, 1), interval(0, 0), true},
		{rail(1000000, 0, 0), 1000000, ratio(0, 1), interval(-1000, 1000), true},
		{rail(1000000, -1000, 1000000), 1000000, ratio(999000, 1), interval(-1000, 1000), false},
		{rail(10, -5, 1), 50, ratio(0, 1), interval(0, 0), true},
		{rail(1000000, 999, 1), 999999, ratio(999999999, 1000000), interval(999, 1000), true}, // with the greatest numerator, and the least one
		{rail(1000000, -1000, 1), 1, ratio(-999999999, 1000000), interval(-1000, -1000), false},
	} {
		is, e := plan.InBand(x.rail, x.growth, x.band)
		want(t, "InBand", list(i, is, e), list(i, x.is, api.OK))
		n, e := plan.Neutral(x.rail, x.growth)
		want(t, "Neutral", list(i, n, e), list(i, x.neutral, api.OK))
	}
	longest := rail(1000000, 1000, 1) // has 1000 and a millionth for the growth 1
	_, e := plan.Neutral(longest, 1)
	is, f := plan.InBand(longest, 1, interval(-1000, 1000))
	want(t, "a rail with a large numerator", list(e, is, f), list(api.ErrLarge, false, api.OK))
	n, e := plan.Joined(shownRails(), 50000)
	want(t, "Joined", list(n, e), list(ratio(235, 1), api.OK))
}

// TestPull checks example 5, and other pulls.
func TestPull(t *testing.T) {
	for i, x := range []struct {
		length, heat, growth int
		band                 api.Interval
		pull                 int
		e                    api.Errno
	}{
		{1000, 150, 50000, interval(240, 260), 2, api.OK},
		{1000, 270, 50000, interval(240, 260), 0, api.ErrBand},
		{1000, 261, 50000, interval(240, 260), 0, api.ErrBand},
		{1000, 260, 50000, interval(240, 260), 0, api.OK},
		{1000, 240, 50000, interval(240, 260), 0, api.OK},
		{1000, 239, 50000, interval(240, 260), 0, api.ErrInfeasible}, // 1 gives 289
		{1000, 190, 50000, interval(240, 260), 1, api.OK},
		{1000, 210, 50000, interval(240, 260), 1, api.OK},
		{1000, 211, 50000, interval(240, 260), 0, api.ErrInfeasible}, // 261
		{1000, 189, 50000, interval(240, 260), 0, api.ErrInfeasible}, // 239 and 289
		{1000, 140, 50000, interval(240, 260), 2, api.OK},
		{900, 150, 50000, interval(240, 260), 0, api.ErrInfeasible},
		{900, 150, 50000, interval(240, 262), 2, api.OK},
		{900, 150, 50000, interval(206, 240), 0, api.ErrInfeasible}, // 205 and five ninths
		{900, 150, 50000, interval(205, 240), 1, api.OK},
		{100, 0, 100, interval(100, 100), 100, api.OK},
		{100, 0, 100, interval(101, 200), 0, api.ErrInfeasible},
		{100, -1, 100, interval(100, 100), 0, api.ErrInfeasible},
		{1, -1000, 1000000, interval(-1000, 1000), 0, api.OK},
		{1, -1000, 1000, interval(0, 0), 1, api.OK},
		{1000000, -1000, 1000000, interval(1000, 1000), 2000, api.OK},
		{1000000, -1000, 2000, interval(1000, 1000), 1000000, api.OK},
		{1000000, -1000, 1999, interval(1000, 1000), 0, api.ErrInfeasible},
		{1000000, -1000, 1, interval(1000, 1000), 0, api.ErrInfeasible},
	} {
		n, e := plan.Pull(x.length, x.heat, x.growth, x.band)
		want(t, "Pull", list(i, n, e), list(i, x.pull, x.e))
	}
}

// neutralOf returns the neutral temperature of a rail by its definition.
func neutralOf(r plan.Rail, growth int) *big.Rat {
	return plus(whole(r.Heat), by(times(whole(r.Extension), whole(growth)), whole(r.Length)))
}

// isWithin reports whether a temperature is in a band.
func isWithin(x *big.Rat, band api.Interval) bool {
	return x.Cmp(whole(band.Low)) >= 0 && x.Cmp(whole(band.High)) <= 0
}

// someRail returns a rail, with a growth and a band that is near to its neutral temperature.
func someRail(g *rand.Rand) (plan.Rail, int, api.Interval) {
	r := rail(between(g, 1, 1<<between(g, 1, 19)), between(g, -300, 300), 0)
	r.Extension = g.IntN(r.Length/between(g, 1, 1000) + 1)
	growth := between(g, 1, 1<<between(g, 1, 19))
	low := r.Heat + min(r.Extension*growth/r.Length, 500) + between(g, -20, 20)
	return r, growth, interval(low, low+g.IntN(40))
}

// TestRailsByDefinition checks neutral temperatures, and whether these are in bands, against ratios without bounds.
func TestRailsByDefinition(t *testing.T) {
	g := source(20)
	in, out, large := 0, 0, 0
	for range 4000 {
		r, growth, band := someRail(g)
		exact := neutralOf(r, growth)
		is, e := plan.InBand(r, growth, band)
		want(t, "InBand", list(r, growth, band, is, e), list(r, growth, band, isWithin(exact, band), api.OK))
		if is {
			in++
		} else {
			out++
		}
		checkRatio(t, "Neutral", list(r, growth), exact, &large, func() (api.Ratio, api.Errno) { return plan.Neutral(r, growth) })
	}
	for range 500 {
		r := rail(between(g, 999000, 1000000), between(g, 950, 1000), g.IntN(2000))
		growth := g.IntN(1000000) + 1
		checkRatio(t, "Neutral", list(r, growth), neutralOf(r, growth), &large, func() (api.Ratio, api.Errno) { return plan.Neutral(r, growth) })
	}
	if in < 500 || out < 500 || large < 100 {
		t.Errorf("too few rails: %v in bands, %v not, %v with too large numbers", in, out, large)
	}
}

// checkRatio checks a ratio, or that it is too large, which is counted.
func checkRatio(t *testing.T, what string, arguments []any, exact *big.Rat, large *int, f func() (api.Ratio, api.Errno)) {
	t.Helper()
	x, e := f()
	wanted, isFit := ratioOf(exact)
	if !isFit {
		*large++
		want(t, what, list(arguments, x, e), list(arguments, api.Ratio{}, api.ErrLarge))
		return
	}
	want(t, what, list(arguments, x, e), list(arguments, wanted, api.OK))
}

// TestJoinedByDefinition checks rails that are welded together against ratios without bounds.
func TestJoinedByDefinition(t *testing.T) {
	g := source(21)
	large := 0
	for range 3000 {
		var l []plan.Rail
		growth := 0
		isLong := g.IntN(4) == 0
		for range between(g, 1, 8) {
			r, by, _ := someRail(g)
			if isLong {
				r.Length, r.Heat = between(g, 500000, 1000000), between(g, 500, 1000)
			}
			l, growth = append(l, r), by
		}
		sum, length := whole(0), whole(0)
		for _, r := range l {
			sum = plus(sum, times(whole(r.Length), neutralOf(r, growth)))
			length = plus(length, whole(r.Length))
		}
		checkRatio(t, "Joined", list(l, growth), by(sum, length), &large, func() (api.Ratio, api.Errno) { return plan.Joined(l, growth) })
	}
	if large < 100 || large > 2000 {
		t.Errorf("rails with too large numbers: %v", large)
	}
}

// TestPullsByDefinition checks pulls of short rails against all extensions.
func TestPullsByDefinition(t *testing.T) {
	g := source(22)
	seen := map[api.Errno]int{}
	for range 4000 {
		length, heat := between(g, 1, 1<<between(g, 1, 9)), between(g, -100, 300)
		growth := between(g, 1, 1<<between(g, 1, 12))
		low := between(g, -50, 300)
		band := interval(low, low+g.IntN(30))
		pull, wanted := 0, api.ErrInfeasible
		switch {
		case heat > band.High:
			wanted = api.ErrBand
		default:
			for n := length; n >= 0; n-- {
				if isWithin(neutralOf(rail(length, heat, n), growth), band) {
					pull, wanted = n, api.OK
				}
			}
		}
		seen[wanted]++
		if wanted == api.OK && pull > 0 {
			seen[-1]++
		}
		n, e := plan.Pull(length, heat, growth, band)
		want(t, "Pull", list(length, heat, growth, band, n, e), list(length, heat, growth, band, pull, wanted))
	}
	for _, e := range []api.Errno{-1, api.OK, api.ErrBand, api.ErrInfeasible} {
		if seen[e] < 200 {
			t.Errorf("too few pulls with the error %v: %v", e, seen[e])
		}
	}
}
