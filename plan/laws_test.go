package plan_test

import (
	"math/big"
	"slices"
	"testing"

	"versine/api"
	"versine/plan"
)

// TestNoPlanIsBetter checks that no plan has a greater value than the best one, nor that one than any bound.
func TestNoPlanIsBetter(t *testing.T) {
	g := source(40)
	plans, tight := 0, 0
	for range 300 {
		o := someOffice(g, 7, 5)
		best, most, e := plan.Plan(o)
		want(t, "the error of Plan", list(e), list(api.OK))
		again, e := plan.CheckPlan(o, best)
		want(t, "the best plan", list(o, again, e), list(o, most, api.OK))
		for range 100 {
			l := somePlan(g, o)
			x, e := plan.CheckPlan(o, l)
			if e != api.OK {
				continue
			}
			plans++
			isFirst := slices.Compare(best, l) <= 0
			if isBetter(x, most) || x == most && !isFirst {
				t.Errorf("a plan for %v: got %v with %v, better than %v with %v", o, l, x, best, most)
			}
		}
		for range 20 {
			prices := somePrices(g, o)
			bound, e := plan.Bound(o, prices)
			if e != api.OK || bound < most.Value {
				t.Errorf("the bound of %v by %v: got %v, %v, below %v", o, prices, bound, e, most)
			}
			if bound == most.Value {
				tight++
			}
		}
	}
	if plans < 5000 || tight < 200 {
		t.Errorf("too few plans: %v, and %v bounds that are reached", plans, tight)
	}
}

// TestLateSections checks that the best plan takes no section that is late, and that each other one is taken by some plan.
func TestLateSections(t *testing.T) {
	g := source(41)
	late := 0
	for range 500 {
		o := someOffice(g, 7, 4)
		reasons, e := plan.Late(o)
		want(t, "the error of Late", list(e), list(api.OK))
		best, _, _ := plan.Plan(o)
		for i := range o.Sections {
			isLate := slices.ContainsFunc(reasons, func(r plan.Reason) bool { return r.Section == i })
			isTaken := false
			for k := range o.Shifts {
				alone := constant(-1, len(o.Sections))
				alone[i] = k
				_, e := plan.CheckPlan(o, alone)
				isTaken = isTaken || e == api.OK
			}
			want(t, "a section alone", list(o, i, isTaken), list(o, i, !isLate))
			if isLate {
				late++
				want(t, "the shift of a late section", list(o, i, best[i]), list(o, i, -1))
			}
		}
	}
	if late < 300 {
		t.Errorf("too few sections are late: %v", late)
	}
}

// TestFurtherShifts checks that the best value is not less with a further shift.
func TestFurtherShifts(t *testing.T) {
	g := source(42)
	greater := 0
	for range 1000 {
		o := someOffice(g, 6, 4)
		_, before, _ := plan.Plan(o)
		at := g.IntN(len(o.Shifts) + 1)
		first, last := 0, 8
		if at > 0 {
			first = o.Shifts[at-1].Day
		}
		if at < len(o.Shifts) {
			last = o.Shifts[at].Day
		}
		o.Shifts = slices.Insert(o.Shifts, at, someShift(g, between(g, first, last)))
		_, after, e := plan.Plan(o)
		want(t, "the error of Plan", list(o, e), list(o, api.OK))
		if after.Value < before.Value {
			t.Errorf("the best value of %v: got %v, without the shift %v %v", o, after, at, before)
		}
		if after.Value > before.Value {
			greater++
		}
	}
	if greater < 100 {
		t.Errorf("too few values are greater: %v", greater)
	}
}

// TestWhatPlansLeave checks that hours and tonnes that are left and those that are taken are all there are.
func TestWhatPlansLeave(t *testing.T) {
	g := source(43)
	for range 500 {
		o := someOffice(g, 7, 5)
		best, _, _ := plan.Plan(o)
		left, e := plan.Left(o, best)
		want(t, "the error of Left", list(len(left), e), list(len(o.Shifts), api.OK))
		last := -1
		for k, s := range o.Shifts {
			sum := left[k]
			for i, x := range o.Sections {
				if best[i] == k {
					sum[0] += x.Work
					sum[1] += x.Ballast
					last = s.Day
				}
			}
			want(t, "all hours and tonnes", list(o, k, sum, left[k][0] >= 0, left[k][1] >= 0), list(o, k, [2]int{s.Hours, s.Ballast}, true, true))
		}
		day, e := plan.Last(o, best)
		if last < 0 {
			want(t, "Last", list(day, e), list(0, api.ErrNone))
			continue
		}
		want(t, "Last", list(o, best, day, e), list(o, best, last, api.OK))
	}
}

// TestNoLiftsCostLess checks that no lifts cost less than the best ones, and that steeper ramps, or greater lifts, cost no more.
func TestNoLiftsCostLess(t *testing.T) {
	g := source(44)
	less := 0
	for range 600 {
		c := someCourse(g, 24, 12)
		best, least, e := plan.Design(c.levels, c.targets, c.rules)
		want(t, "the error of Design", list(e), list(api.OK))
		again, e := plan.CheckLifts(c.levels, c.targets, best, c.rules)
		want(t, "the best lifts", list(c, again, e), list(c, least, api.OK))
		for range 30 {
			l := someLifts(g, len(c.levels), c.rules)
			if g.IntN(2) == 0 { // near to the best ones
				l = slices.Clone(best)
				l[g.IntN(len(l))] += between(g, -1, 1)
			}
			cost, e := plan.CheckLifts(c.levels, c.targets, l, c.rules)
			if e == api.OK && (cost < least || cost == least && slices.Compare(l, best) < 0) {
				t.Errorf("lifts of %v: got %v at %v, better than %v at %v", c, l, cost, best, least)
			}
		}
		for _, r := range []plan.Rules{rules(c.rules.Most, min(c.rules.Ramp+1, 12)), rules(c.rules.Most, 12), rules(min(c.rules.Most+1, 12), c.rules.Ramp)} {
			_, cost, e := plan.Design(c.levels, c.targets, r)
			if e != api.OK || cost > least {
				t.Errorf("the best lifts of %v by %v: got %v, %v, above %v", c, r, cost, e, least)
			}
			if cost < least {
				less++
			}
		}
	}
	if less < 200 {
		t.Errorf("too few rules cost less: %v", less)
	}
}

// TestLiftsOfLiftedLevels checks that lifts of lifted levels cost what both lifts cost together, but for the squares of the first ones.
func TestLiftsOfLiftedLevels(t *testing.T) {
	g := source(45)
	for range 500 {
		c := someCourse(g, 24, 6)
		first, second := someLifts(g, len(c.levels), rules(6, 6)), someLifts(g, len(c.levels), rules(6, 6))
		lifted, e := plan.Lifted(c.levels, first)
		want(t, "the error of Lifted", list(e), list(api.OK))
		both, sum := slices.Clone(first), 0
		for i := range both {
			both[i] += second[i]
			sum += first[i]
		}
		after, e := plan.CheckLifts(lifted, c.targets, second, rules(12, 12))
		whole, f := plan.CheckLifts(c.levels, c.targets, both, rules(12, 12))
		want(t, "lifts of lifted levels", list(c, first, second, after+sum, e), list(c, first, second, whole, f))
	}
}

// TestPulledRails checks that a rail that was pulled is in the band, and by less it is not.
func TestPulledRails(t *testing.T) {
	g := source(46)
	pulled := 0
	for range 4000 {
		r, growth, band := someRail(g)
		n, e := plan.Pull(r.Length, r.Heat, growth, band)
		if e != api.OK {
			want(t, "the pull beside an error", list(n), list(0))
			is, _ := plan.InBand(r, growth, band)
			want(t, "a rail without a pull", list(r, growth, band, is), list(r, growth, band, false))
			continue
		}
		pulled += min(n, 1)
		is, e := plan.InBand(rail(r.Length, r.Heat, n), growth, band)
		want(t, "a rail that was pulled", list(r, growth, band, n, is, e), list(r, growth, band, n, true, api.OK))
		for _, less := range ints(0, n/2, n-2, n-1, g.IntN(n+1)) {
			if less < 0 || less >= n {
				continue
			}
			is, e = plan.InBand(rail(r.Length, r.Heat, less), growth, band)
			want(t, "a rail that was pulled by less", list(r, growth, band, less, is, e), list(r, growth, band, less, false, api.OK))
		}
	}
	if pulled < 500 {
		t.Errorf("too few rails are pulled: %v", pulled)
	}
}

// TestWeldedRails checks that rails that are welded together have a neutral temperature between those of them, whatever their order is.
func TestWeldedRails(t *testing.T) {
	g := source(47)
	right := 0
	for range 2000 {
		var l []plan.Rail
		var low, high *big.Rat
		growth := between(g, 1, 2000)
		for range between(g, 1, 8) {
			r := rail(between(g, 1, 2000), between(g, -300, 300), 0)
			r.Extension = g.IntN(r.Length + 1)
			l = append(l, r)
			n, e := plan.Neutral(r, growth)
			want(t, "the error of Neutral", list(r, growth, e), list(r, growth, api.OK))
			if x := rat(n); low == nil || x.Cmp(low) < 0 {
				low = x
			}
			if x := rat(n); high == nil || x.Cmp(high) > 0 {
				high = x
			}
		}
		x, e := plan.Joined(l, growth)
		if e != api.OK || rat(x).Cmp(low) < 0 || rat(x).Cmp(high) > 0 {
			t.Errorf("Joined of %v by %v: got %v, %v, not between %v and %v", l, growth, x, e, low, high)
			continue
		}
		right++
		slices.Reverse(l)
		y, e := plan.Joined(l, growth)
		want(t, "Joined in the other order", list(l, growth, y, e), list(l, growth, x, api.OK))
		n, _ := plan.Neutral(l[0], growth)
		y, e = plan.Joined(constant(l[0], len(l)), growth)
		want(t, "Joined of equal rails", list(l, growth, y, e), list(l, growth, n, api.OK))
	}
	if right < 1500 {
		t.Errorf("too few rails: %v", right)
	}
}

// TestNoSequenceEndsBefore checks that no sequence ends before the best one, nor in fewer days than the longest chain has jobs.
func TestNoSequenceEndsBefore(t *testing.T) {
	g := source(48)
	found, long := 0, 0
	for range 600 {
		l, heats, band := someJobs(g, 8), someHeats(g, 12), interval(0, between(g, 40, 90))
		best, last, e := plan.Sequenced(l, heats, band)
		if e == api.OK {
			again, f := plan.CheckSequence(l, heats, band, best)
			want(t, "the best sequence", list(l, heats, band, again, f), list(l, heats, band, last, api.OK))
		}
		for range 20 {
			days := someDays(g, l, heats, band)
			end, f := plan.CheckSequence(l, heats, band, days)
			if f != api.OK {
				continue
			}
			found++
			if e != api.OK || end < last || end == last && slices.Compare(days, best) < 0 {
				t.Errorf("a sequence of %v, %v, %v: got %v, better than %v, %v", l, heats, band, days, best, e)
			}
		}
		if e != api.OK || len(l) == 0 {
			continue
		}
		chain, f := plan.Chain(l)
		if f != api.OK || last+1 < len(chain) {
			t.Errorf("the best sequence of %v: got the last day %v, fewer than in %v, %v", l, last, chain, f)
		}
		if last+1 == len(chain) {
			long++
		}
	}
	if found < 1500 || long < 50 {
		t.Errorf("too few sequences: %v, %v as short as the longest chain", found, long)
	}
}

// someDays returns days for jobs, each one on the first or the second day that it may have behind those which it needs.
func someDays(g interface{ IntN(int) int }, l []plan.Job, heats []int, band api.Interval) []int {
	days := constant(-1, len(l))
	for range l {
		for i, j := range l {
			isReady := true
			from := 0
			for k := range l {
				if needsIt(l, i, k) {
					isReady = isReady && days[k] >= 0
					from = max(from, days[k]+1)
				}
			}
			if days[i] >= 0 || !isReady {
				continue
			}
			skip := g.IntN(3) / 2
			for day := from; day < len(heats) && days[i] < 0; day++ {
				isTaken := false
				for k, other := range l {
					isTaken = isTaken || other.Kind == j.Kind && days[k] == day
				}
				if isTaken || j.Kind == "weld" && heats[day] > band.High {
					continue
				}
				if skip--; skip < 0 {
					days[i] = day
				}
			}
		}
	}
	return days
}

// TestSequencesOfMoreDays checks that further days make no sequence longer, and that the days behind the last one do not count.
func TestSequencesOfMoreDays(t *testing.T) {
	g := source(49)
	for range 500 {
		l, heats, band := someJobs(g, 8), someHeats(g, 12), interval(0, between(g, 40, 90))
		days, last, e := plan.Sequenced(l, heats, band)
		if e != api.OK {
			continue
		}
		again, end, e := plan.Sequenced(l, heats[:last+1], band)
		want(t, "Sequenced on as many days", list(l, heats, band, again, end, e), list(l, heats, band, days, last, api.OK))
		if last > 0 {
			_, _, e = plan.Sequenced(l, heats[:last], band)
			want(t, "Sequenced on fewer days", list(l, heats, band, e), list(l, heats, band, api.ErrInfeasible))
		}
	}
}

// TestTextsComeBack checks that offices are parsed as they were printed.
func TestTextsComeBack(t *testing.T) {
	g := source(50)
	for range 1500 {
		o := someOffice(g, 7, 5)
		if g.IntN(4) == 0 {
			o = longest()
			o.Sections, o.Shifts = o.Sections[:g.IntN(8)], o.Shifts[:g.IntN(6)]
		}
		text, e := plan.Print(o)
		back, line, f := plan.Parse(text)
		want(t, "Parse of Print", list(e, back, line, f), list(api.OK, o, 0, api.OK))
		again, e := plan.Print(back)
		want(t, "Print again", list(again, e), list(text, api.OK))
	}
}
