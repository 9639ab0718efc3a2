package fault_test

import (
	"slices"
	"testing"

	"versine/api"
	"versine/fault"
	"versine/sample"
)

// TestExceeded checks example 3, and the edges of limits and spans.
func TestExceeded(t *testing.T) {
	hundred := found(105, 107, -100, false)
	for i, x := range []struct {
		l      fault.Limits
		r      sample.Run
		speed  int
		faults []fault.Fault
	}{
		{shownLimits(), shownRun(), 160, shownFaults()},
		{shownLimits(), shownRun(), 121, shownFaults()},
		{shownLimits(), shownRun(), 120, []fault.Fault{hundred}},
		{shownLimits(), shownRun(), 81, []fault.Fault{hundred}},
		{shownLimits(), shownRun(), 80, nil},
		{shownLimits(), run(0), 160, nil},
		{shownLimits(), run(0, none, none), 160, nil},
		{shownLimits(), run(0, 56, -56), 160, nil},
		{shownLimits(), run(9, 57), 160, []fault.Fault{found(9, 10, 57, false)}},
		{shownLimits(), run(9, -57), 160, []fault.Fault{found(9, 10, -57, false)}},
		{shownLimits(), run(9, 72), 160, []fault.Fault{found(9, 10, 72, false)}},
		{shownLimits(), run(9, 73), 160, []fault.Fault{found(9, 10, 73, true)}},
		{shownLimits(), run(9, -73), 160, []fault.Fault{found(9, 10, -73, true)}},
		{shownLimits(), run(0, 57, 73, 58), 160, []fault.Fault{found(0, 3, 73, true)}},
		{shownLimits(), run(0, 70, -70, 70), 160, []fault.Fault{found(0, 3, 70, false)}},
		{shownLimits(), run(0, -70, 70, 69), 160, []fault.Fault{found(0, 3, -70, false)}},
		{shownLimits(), run(0, 70, -71, 71), 160, []fault.Fault{found(0, 3, -71, false)}},
		{shownLimits(), run(0, 90, none, 91, none, none, 60), 160, []fault.Fault{found(0, 1, 90, true), found(2, 3, 91, true), found(5, 6, 60, false)}},
		{shownLimits(), run(0, 90, 0, 91, 56, 92), 160, []fault.Fault{found(0, 1, 90, true), found(2, 3, 91, true), found(4, 5, 92, true)}},
		{rows(0, 500, 0), run(3, 0, 1, 0, -1), 1, []fault.Fault{found(4, 5, 1, true), found(6, 7, -1, true)}},
		{rows(1, 500, 0), run(3, 0, 1, 0, -2), 1, []fault.Fault{found(3, 7, -2, true)}},
	} {
		faults, e := fault.Exceeded(x.l, x.r, x.speed)
		want(t, "Exceeded", list(i, faults, e), list(i, x.faults, api.OK))
	}
}

// place is a place of a run: whether it is known, and its integer.
type place struct {
	isKnown bool
	integer int
}

// placesOf returns the places of a run.
func placesOf(r sample.Run) []place {
	l := make([]place, len(r.Samples))
	for i := range l {
		x, isKnown, _ := sample.At(r, r.First+i)
		l[i] = place{isKnown, int(16 * x)}
	}
	return l
}

// absolute returns the absolute value of an integer.
func absolute(n int) int {
	if n < 0 {
		return -n
	}
	return n
}

// spans returns all spans of indices from 0 to n - 1 that are so, and are in no longer one that is so.
func spans(n int, is func(i int) bool) []api.Span {
	var l []api.Span
	for from := range n {
		for to := from + 1; to <= n; to++ {
			areAll := true
			for i := from; i < to; i++ {
				areAll = areAll && is(i)
			}
			isLongest := (from == 0 || !is(from-1)) && (to == n || !is(to))
			if areAll && isLongest {
				l = append(l, span(from, to))
			}
		}
	}
	return l
}

// faultsOf returns the faults of a run by a greatest value by their definition.
func faultsOf(r sample.Run, band, most int) []fault.Fault {
	places := placesOf(r)
	var l []fault.Fault
	for _, s := range spans(len(places), func(i int) bool {
		return places[i].isKnown && absolute(places[i].integer)+band > most
	}) {
		within := places[s.From:s.To]
		f := found(r.First+s.From, r.First+s.To, within[0].integer, false)
		for _, p := range within {
			if absolute(p.integer) > absolute(f.Value) {
				f.Value = p.integer
			}
			f.Sure = f.Sure || absolute(p.integer)-band > most
		}
		l = append(l, f)
	}
	return l
}

// TestExceededByDefinition checks the faults of runs against all spans.
func TestExceededByDefinition(t *testing.T) {
	g := source(3)
	sure, unsure := 0, 0
	for range 600 {
		bound := 1 << between(g, 1, 14)
		l, r := someLimits(g, min(bound/4, 1000), bound), someRun(g, 30, bound)
		speed := between(g, 1, 500)
		limit, isAny := most(l, speed)
		faults, e := fault.Exceeded(l, r, speed)
		if !isAny {
			want(t, "Exceeded of no row", list(l, r, speed, faults, e), list(l, r, speed, []fault.Fault(nil), api.ErrNone))
			continue
		}
		want(t, "Exceeded", list(l, r, speed, faults, e), list(l, r, speed, faultsOf(r, l.Band, limit), api.OK))
		for _, f := range faults {
			if f.Sure {
				sure++
			} else {
				unsure++
			}
		}
	}
	if sure < 200 || unsure < 200 {
		t.Errorf("too few faults: %v are sure, %v are not", sure, unsure)
	}
}

// TestMerged checks example 4, and gaps.
func TestMerged(t *testing.T) {
	chain := []fault.Fault{found(1, 2, 1, false), found(4, 5, 2, false), found(7, 8, 3, false)}
	for i, x := range []struct {
		faults []fault.Fault
		gap    int
		merged []fault.Fault
	}{
		{shownFaults(), 0, shownFaults()},
		{shownFaults(), 1, []fault.Fault{found(101, 107, -100, true)}},
		{shownFaults(), 1000, []fault.Fault{found(101, 107, -100, true)}},
		{nil, 0, nil},
		{nil, 1000, nil},
		{chain, 0, chain},
		{chain, 1, chain},
		{chain, 2, []fault.Fault{found(1, 8, 3, false)}},
		{chain[:1], 5, chain[:1]},
		{[]fault.Fault{found(1, 3, 5, false), found(3, 4, -5, true), found(6, 7, 2, false)}, 0, []fault.Fault{found(1, 4, 5, true), found(6, 7, 2, false)}},
		{[]fault.Fault{found(1, 3, -5, true), found(3, 4, 5, false)}, 0, []fault.Fault{found(1, 4, -5, true)}},
		{[]fault.Fault{found(1, 3, -5, false), found(4, 5, 6, false), found(6, 9, -6, false)}, 1, []fault.Fault{found(1, 9, 6, false)}},
		{[]fault.Fault{found(1, 3, 0, false), found(3, 5, 0, false)}, 0, []fault.Fault{found(1, 5, 0, false)}},
		{[]fault.Fault{found(0, 1, 1, false), found(1001, 1002, 2, true), found(2003, 2004, 3, true)}, 1000, []fault.Fault{found(0, 1002, 2, true), found(2003, 2004, 3, true)}},
		{[]fault.Fault{found(0, 1, 1, false), found(1002, 1003, 2, true), found(2003, 2004, -3, false)}, 1000, []fault.Fault{found(0, 1, 1, false), found(1002, 2004, -3, true)}},
		{manyFaults(256), 1, []fault.Fault{found(0, 511, 255, false)}},
		{manyFaults(256), 0, manyFaults(256)},
	} {
		merged, e := fault.Merged(x.faults, x.gap)
		want(t, "Merged", list(i, merged, e), list(i, x.merged, api.OK))
	}
}

// mergedOnce puts the last two faults together that are so near, and reports whether there were any.
func mergedOnce(l []fault.Fault, gap int) ([]fault.Fault, bool) {
	for i := len(l) - 1; i > 0; i-- {
		a, b := l[i-1], l[i]
		if b.Span.From > a.Span.To+gap {
			continue
		}
		value := a.Value
		if absolute(b.Value) > absolute(value) {
			value = b.Value
		}
		one := found(a.Span.From, b.Span.To, value, a.Sure || b.Sure)
		return slices.Concat(l[:i-1], []fault.Fault{one}, l[i+1:]), true
	}
	return l, false
}

// TestMergedByDefinition checks merged faults against pairs that are put together again and again.
func TestMergedByDefinition(t *testing.T) {
	g := source(4)
	fewer := 0
	for range 1500 {
		faults, gap := someFaults(g, 12), g.IntN(8)
		want(t, "CheckFaults", list(faults, fault.CheckFaults(faults)), list(faults, api.OK))
		wanted, isAny := mergedOnce(faults, gap)
		for isAny {
			wanted, isAny = mergedOnce(wanted, gap)
		}
		merged, e := fault.Merged(faults, gap)
		want(t, "Merged", list(faults, gap, merged, e), list(faults, gap, wanted, api.OK))
		if len(merged) > 1 && len(merged) < len(faults) {
			fewer++
		}
	}
	if fewer < 300 {
		t.Errorf("too few faults are merged: %v", fewer)
	}
}
