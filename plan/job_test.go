package plan_test

import (
	"slices"
	"strings"
	"testing"

	"versine/api"
	"versine/plan"
)

// line returns n jobs, each of which needs the one before it.
func line(n int) []plan.Job {
	l := manyJobs(n)
	for i := range l[1:] {
		l[i+1].After = []string{l[i].Name}
	}
	return l
}

// TestCheckJobs checks jobs without an error, and with each one.
func TestCheckJobs(t *testing.T) {
	long := strings.Repeat("a", 24)
	needy := manyJobs(8)
	for i := range needy[:7] {
		needy[7].After = append(needy[7].After, nameOf(i))
	}
	for i, l := range [][]plan.Job{
		nil, site(), manyJobs(8), line(8), needy, {job(long, "tamp"), job("A", "tamp", "a", long), job("a", "tamp", long)},
		{job("a", "grind", "b"), job("b", "grind", "c"), job("c", "grind")}, // in the other order
		{job("tamp", "weld"), job("weld", "tamp", "tamp")},
	} {
		want(t, "CheckJobs", list(i, plan.CheckJobs(l)), list(i, api.OK))
	}
	for i, b := range badJobs() {
		want(t, "CheckJobs", list(i, plan.CheckJobs(b.x)), list(i, b.e))
	}
	for i := range 8 { // a cycle of all jobs, and of all behind one
		l := line(8)
		l[i].After = append(l[i].After, l[7].Name)
		want(t, "CheckJobs of a cycle", list(i, plan.CheckJobs(l)), list(i, api.ErrCycle))
	}
	eight, nine := constant("n01", 8), constant("n01", 9)
	for i, x := range []struct {
		after []string
		e     api.Errno
	}{
		{eight, api.ErrTwice}, {nine, api.ErrMany}, {[]string{"n00", "n01", "n02", "n03", "n04", "n05", "n06", "n07"}, api.ErrCycle}, {constant("x", 8), api.ErrUnknown}, {constant("x", 9), api.ErrMany},
	} {
		l := manyJobs(8)
		l[7].After = x.after
		want(t, "CheckJobs", list(i, plan.CheckJobs(l)), list(i, x.e))
		l[0].After = []string{"x"} // in the first job, but later than ErrMany
		want(t, "CheckJobs", list(i, plan.CheckJobs(l) == api.ErrMany), list(i, x.e == api.ErrMany))
	}
}

// needsIt reports whether a job needs another one itself.
func needsIt(l []plan.Job, i, other int) bool { return slices.Contains(l[i].After, l[other].Name) }

// canReach reports whether a job needs another one in up to so many steps.
func canReach(l []plan.Job, i, other, steps int) bool {
	for k := range l {
		if needsIt(l, i, k) && (k == other || steps > 1 && canReach(l, k, other, steps-1)) {
			return true
		}
	}
	return false
}

// TestCyclesByDefinition checks whether jobs with any needs have cycles.
func TestCyclesByDefinition(t *testing.T) {
	g := source(30)
	cycles := 0
	for range 2000 {
		l := manyJobs(g.IntN(6))
		often := between(g, 2, 8)
		for i := range l {
			for _, k := range g.Perm(len(l)) {
				if g.IntN(often) == 0 {
					l[i].After = append(l[i].After, nameOf(k))
				}
			}
		}
		e := api.OK
		for i := range l {
			if canReach(l, i, i, len(l)) {
				e = api.ErrCycle
			}
		}
		want(t, "CheckJobs", list(l, plan.CheckJobs(l)), list(l, e))
		if e != api.OK {
			cycles++
		}
	}
	if cycles < 500 || cycles > 1500 {
		t.Errorf("cycles: %v", cycles)
	}
}

// TestShownSequences checks example 6, and which error of several decides.
func TestShownSequences(t *testing.T) {
	days, last, e := plan.Sequenced(site(), shownHeats(), shownBand())
	want(t, "Sequenced", list(days, last, e), list(ints(0, 2, 3), 3, api.OK))
	alike := []plan.Job{job("a", "weld"), job("b", "weld"), job("c", "weld", "a"), job("d", "grind", "c")}
	for i, x := range []struct {
		jobs  []plan.Job
		heats []int
		days  []int
		last  int
		e     api.Errno
	}{
		{site(), shownHeats(), ints(0, 2, 3), 3, api.OK},
		{site(), shownHeats(), ints(1, 2, 3), 3, api.OK},
		{site(), ints(300, 260, 300), ints(0, 1, 2), 2, api.OK},
		{site(), ints(300, 261, 300), ints(0, 1, 2), 0, api.ErrBand},
		{alike, constant(0, 9), ints(0, 1, 2, 3), 3, api.OK},
		{alike, constant(0, 9), ints(7, 0, 8, 8), 0, api.ErrOrder},
		{alike, constant(0, 9), ints(2, 0, 3, 8), 8, api.OK},
		{alike, constant(0, 9), ints(2, 8, 3, 8), 8, api.OK}, // of different kinds
		{alike, constant(0, 9), ints(0, 0, 1, 2), 0, api.ErrTwice},
		{alike, constant(0, 9), ints(0, 1, 1, 2), 0, api.ErrTwice},
		{alike, constant(0, 9), ints(0, 1, 0, 2), 0, api.ErrOrder},                                           // c is on the day of a, too
		{alike, append(constant(0, 3), 261), ints(3, 3, 3, 3), 0, api.ErrBand},                               // of a
		{alike, append(constant(0, 3), 261), ints(0, 0, 3, 2), 0, api.ErrTwice},                              // of b
		{alike, append(constant(0, 3), 261, 261, 0), ints(0, 3, 3, 2), 0, api.ErrBand},                       // of b
		{alike, append(constant(0, 3), 261, 261, 0), ints(0, 2, 3, 2), 0, api.ErrBand},                       // of c
		{alike, append(constant(0, 3), 261, 261, 261), ints(1, 2, 0, 3), 0, api.ErrOrder},                    // of c
		{[]plan.Job{job("a", "grind", "b"), job("b", "grind")}, constant(0, 2), ints(0, 0), 0, api.ErrOrder}, // also where the job that it needs stands behind it
		{[]plan.Job{job("a", "grind", "b"), job("b", "grind")}, constant(0, 2), ints(1, 0), 1, api.OK},
		{[]plan.Job{job("a", "tamp"), job("b", "grind")}, constant(1000, 2), ints(1, 1), 1, api.OK},
		{[]plan.Job{job("a", "tamp", "c"), job("b", "grind"), job("c", "weld")}, constant(0, 2), ints(1, 1, 1), 0, api.ErrOrder},
		{nil, constant(0, 2), nil, 0, api.OK},
	} {
		last, e := plan.CheckSequence(x.jobs, x.heats, shownBand(), x.days)
		want(t, "CheckSequence", list(i, last, e), list(i, x.last, x.e))
	}
}

// TestBestSequences checks which sequences are the best ones, also of as many jobs and days as there may be.
func TestBestSequences(t *testing.T) {
	type jobs = []plan.Job
	welds := manyJobs(8)
	for i := range welds {
		welds[i].Kind = "weld"
	}
	mixed := manyJobs(8)
	mixed[7] = job("n07", "weld", "n00", "n01", "n02", "n03", "n04", "n05", "n06")
	turned := line(8)
	slices.Reverse(turned)
	hot := func(days ...int) []int { // the others of twelve days are not too warm
		l := constant(260, 12)
		for _, day := range days {
			l[day] = 261
		}
		return l
	}
	for i, x := range []struct {
		jobs  jobs
		heats []int
		days  []int
		last  int
		e     api.Errno
	}{
		{jobs{job("a", "tamp"), job("b", "tamp")}, constant(0, 3), ints(0, 1), 1, api.OK},
		{jobs{job("a", "tamp"), job("b", "grind"), job("c", "weld")}, constant(0, 3), ints(0, 0, 0), 0, api.OK},
		{jobs{job("a", "tamp"), job("b", "grind", "a")}, constant(0, 3), ints(0, 1), 1, api.OK},
		{jobs{job("a", "tamp", "b"), job("b", "grind")}, constant(0, 3), ints(1, 0), 1, api.OK},
		{jobs{job("a", "tamp"), job("b", "tamp"), job("c", "grind", "b")}, constant(0, 3), ints(1, 0, 1), 1, api.OK}, // not 0, 1, 2
		{jobs{job("a", "weld"), job("b", "tamp")}, ints(300, 0, 0), ints(1, 0), 1, api.OK},
		{jobs{job("a", "grind"), job("b", "weld")}, ints(300, 300, 0), ints(0, 2), 2, api.OK},
		{jobs{job("a", "grind"), job("b", "weld")}, ints(300, 300, 261), nil, 0, api.ErrInfeasible},
		{jobs{job("a", "weld"), job("b", "tamp", "a"), job("c", "tamp")}, ints(300, 260, 300), ints(1, 2, 0), 2, api.OK},
		{jobs{job("a", "tamp"), job("b", "tamp")}, ints(0), nil, 0, api.ErrInfeasible},
		{nil, ints(0, 0), nil, 0, api.OK},
		{nil, ints(1000), nil, 0, api.OK},
		{manyJobs(8), constant(0, 12), ints(0, 0, 0, 1, 1, 1, 2, 2), 2, api.OK},
		{line(8), constant(0, 12), ints(0, 1, 2, 3, 4, 5, 6, 7), 7, api.OK},
		{line(8), constant(0, 8), ints(0, 1, 2, 3, 4, 5, 6, 7), 7, api.OK},
		{line(8), constant(0, 7), nil, 0, api.ErrInfeasible},
		{turned, constant(0, 12), ints(7, 6, 5, 4, 3, 2, 1, 0), 7, api.OK},
		{welds, hot(0, 5, 7), ints(1, 2, 3, 4, 6, 8, 9, 10), 10, api.OK},
		{welds, hot(0, 5, 7, 10), ints(1, 2, 3, 4, 6, 8, 9, 11), 11, api.OK},
		{welds, hot(0, 5, 7, 10, 11), nil, 0, api.ErrInfeasible},
		{mixed, hot(), ints(0, 0, 0, 1, 1, 1, 2, 3), 3, api.OK},
		{mixed, hot(3, 4, 5, 6, 7, 8, 9, 10), ints(0, 0, 0, 1, 1, 1, 2, 11), 11, api.OK},
		{mixed, hot(1, 2, 3, 4, 5, 6, 7, 8, 9, 10, 11), nil, 0, api.ErrInfeasible},
		{mixed, hot(0, 1, 2, 3, 4, 5, 6, 7, 8), ints(0, 0, 9, 1, 1, 10, 2, 11), 11, api.OK},
	} {
		days, last, e := plan.Sequenced(x.jobs, x.heats, interval(-1000, 260))
		want(t, "Sequenced", list(i, days, last, e), list(i, x.days, x.last, x.e))
	}
}

// errorOfDays returns the error of as many days as jobs, by its definition.
func errorOfDays(l []plan.Job, heats []int, band api.Interval, days []int) api.Errno {
	for i, j := range l {
		for k := range l {
			if needsIt(l, i, k) && days[k] >= days[i] {
				return api.ErrOrder
			}
		}
		for k, other := range l[:i] {
			if other.Kind == j.Kind && days[k] == days[i] {
				return api.ErrTwice
			}
		}
		if j.Kind == "weld" && heats[days[i]] > band.High {
			return api.ErrBand
		}
	}
	return api.OK
}

// lastOf returns the last day, or 0 if there is none.
func lastOf(days []int) int { return slices.Max(append(slices.Clone(days), 0)) }

// TestSequencesByDefinition checks all sequences of few jobs, and that the first of those that end first is the best.
func TestSequencesByDefinition(t *testing.T) {
	g := source(31)
	seen := map[api.Errno]int{}
	for range 400 {
		l, heats, band := someJobs(g, 4), someHeats(g, 5), interval(20, between(g, 30, 80))
		var best []int
		isAny := false
		for days := range lists(len(l), 0, len(heats)-1) {
			e := errorOfDays(l, heats, band, days)
			seen[e]++
			last, f := plan.CheckSequence(l, heats, band, days)
			if e != api.OK {
				want(t, "CheckSequence", list(l, heats, band, days, last, f), list(l, heats, band, days, 0, e))
				continue
			}
			want(t, "CheckSequence", list(l, heats, band, days, last, f), list(l, heats, band, days, lastOf(days), e))
			if !isAny || lastOf(days) < lastOf(best) {
				best, isAny = slices.Clone(days), true
			}
		}
		days, last, e := plan.Sequenced(l, heats, band)
		if !isAny {
			seen[api.ErrInfeasible]++
			want(t, "Sequenced", list(l, heats, band, days, last, e), list(l, heats, band, []int(nil), 0, api.ErrInfeasible))
			continue
		}
		want(t, "Sequenced", list(l, heats, band, days, last, e), list(l, heats, band, best, lastOf(best), api.OK))
	}
	for _, e := range []api.Errno{api.OK, api.ErrOrder, api.ErrTwice, api.ErrBand, api.ErrInfeasible} {
		if seen[e] < 40 {
			t.Errorf("too few sequences with the error %v: %v", e, seen[e])
		}
	}
}

// TestChain checks example 6, and which of several chains is the longest.
func TestChain(t *testing.T) {
	type jobs = []plan.Job
	for i, x := range []struct {
		jobs  jobs
		names []string
	}{
		{site(), []string{"t", "w", "g"}},
		{jobs{job("a", "tamp")}, []string{"a"}},
		{jobs{job("a", "tamp"), job("b", "tamp")}, []string{"a"}},
		{jobs{job("b", "tamp"), job("a", "tamp")}, []string{"b"}},
		{jobs{job("a", "tamp"), job("b", "tamp"), job("c", "tamp", "b")}, []string{"b", "c"}},
		{jobs{job("a", "tamp", "c"), job("b", "tamp", "c"), job("c", "tamp")}, []string{"c", "a"}},
		{jobs{job("a", "tamp", "b"), job("b", "tamp"), job("c", "tamp", "d"), job("d", "tamp")}, []string{"b", "a"}},
		{jobs{job("a", "tamp"), job("b", "tamp", "d"), job("c", "tamp", "a"), job("d", "tamp", "a")}, []string{"a", "d", "b"}},
		{jobs{job("a", "tamp"), job("d", "tamp", "b", "c"), job("c", "tamp", "a"), job("b", "tamp", "a")}, []string{"a", "c", "d"}}, // by the order of jobs
		{jobs{job("x", "tamp"), job("a", "tamp"), job("b", "tamp", "a"), job("c", "tamp", "b", "a", "x")}, []string{"a", "b", "c"}},
		{line(8), []string{"n00", "n01", "n02", "n03", "n04", "n05", "n06", "n07"}},
	} {
		l, e := plan.Chain(x.jobs)
		want(t, "Chain", list(i, l, e), list(i, x.names, api.OK))
	}
}

// chains returns all chains that begin with a job.
func chains(l []plan.Job, first int) [][]int {
	out := [][]int{{first}}
	for next := range l {
		if needsIt(l, next, first) {
			for _, c := range chains(l, next) {
				out = append(out, append(ints(first), c...))
			}
		}
	}
	return out
}

// TestChainsByDefinition checks the longest chain against all chains.
func TestChainsByDefinition(t *testing.T) {
	g := source(32)
	long := 0
	for range 1500 {
		l := someJobs(g, 8)
		var longest []int
		for i := range l {
			for _, c := range chains(l, i) {
				if len(c) > len(longest) || len(c) == len(longest) && slices.Compare(c, longest) < 0 {
					longest = c
				}
			}
		}
		var names []string
		for _, i := range longest {
			names = append(names, l[i].Name)
		}
		got, e := plan.Chain(l)
		if len(l) == 0 {
			want(t, "Chain", list(got, e), list([]string(nil), api.ErrNone))
			continue
		}
		want(t, "Chain", list(l, got, e), list(l, names, api.OK))
		if len(names) > 3 {
			long++
		}
	}
	if long < 200 {
		t.Errorf("too few chains are long: %v", long)
	}
}
