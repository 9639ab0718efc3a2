package align_test

import (
	"cmp"
	"slices"
	"testing"

	"versine/align"
	"versine/api"
)

// alignments returns all alignments of a ride.
func alignments(r align.Ride) [][]align.Pair {
	var all [][]align.Pair
	var extend func(l []align.Pair, sight, mark int)
	extend = func(l []align.Pair, sight, mark int) {
		all = append(all, slices.Clone(l))
		for s := sight; s < len(r.Sights); s++ {
			for m := mark; m < len(r.Marks); m++ {
				if r.Sights[s].Kind == r.Marks[m].Kind {
					extend(append(l, align.Pair{Sight: s, Mark: m}), s+1, m+1)
				}
			}
		}
	}
	extend(nil, 0, 0)
	return all
}

// costOf returns the cost of an alignment by the definition.
func costOf(r align.Ride, c align.Costs, l []align.Pair) int {
	cost := 0
	for i := range r.Sights {
		if !slices.ContainsFunc(l, func(p align.Pair) bool { return p.Sight == i }) {
			cost += c.Missed
		}
	}
	for i := 1; i < len(l); i++ {
		first, second := r.Marks[l[i-1].Mark].Place, r.Marks[l[i].Mark].Place
		for _, m := range r.Marks {
			if first < m.Place && m.Place < second {
				cost += c.Unseen
			}
		}
		cost += c.Stretch * distance(second-first, r.Sights[l[i].Sight].Count-r.Sights[l[i-1].Sight].Count)
	}
	return cost
}

// compareAlignments compares alignments pair by pair.
func compareAlignments(a, b []align.Pair) int {
	return slices.CompareFunc(a, b, func(x, y align.Pair) int {
		return cmp.Or(cmp.Compare(x.Sight, y.Sight), cmp.Compare(x.Mark, y.Mark))
	})
}

// leastOf returns the least alignment of a ride, its cost, and the sure pairs, by all alignments.
func leastOf(r align.Ride, c align.Costs) ([]align.Pair, int, []align.Pair) {
	all := alignments(r)
	best := slices.MinFunc(all, func(a, b []align.Pair) int {
		return cmp.Or(
			cmp.Compare(costOf(r, c, a), costOf(r, c, b)),
			cmp.Compare(len(b), len(a)),
			compareAlignments(a, b),
		)
	})
	cost := costOf(r, c, best)
	sure := slices.Clone(best)
	for _, l := range all {
		if costOf(r, c, l) == cost {
			sure = slices.DeleteFunc(sure, func(p align.Pair) bool { return !slices.Contains(l, p) })
		}
	}
	return best, cost, sure
}

// TestShownAlignments checks example 1, and what example 2 says of sure pairs.
func TestShownAlignments(t *testing.T) {
	l, n, e := align.Aligned(shown(), shownCosts())
	want(t, "Aligned", list(l, n, e), list(least(), 27, api.OK))
	for i, x := range []struct {
		l    []align.Pair
		cost int
	}{{least(), 27}, {pairs(0, 0, 3, 2), 53}, {nil, 80}, {pairs(2, 1), 60}, {pairs(0, 2), 60}, {pairs(1, 1, 3, 2), 42}} {
		n, e := align.Cost(shown(), shownCosts(), x.l)
		want(t, "Cost", list(i, n, e), list(i, x.cost, api.OK))
	}
	sure, e := align.Sure(shown(), shownCosts())
	want(t, "Sure", list(sure, e), list(least(), api.OK))
}

// TestAlignmentsOfSmallRides checks which alignment is the least one, and which pairs are sure.
func TestAlignmentsOfSmallRides(t *testing.T) {
	for i, x := range []struct {
		r    align.Ride
		c    align.Costs
		l    []align.Pair
		cost int
		sure []align.Pair
	}{
		{align.Ride{}, shownCosts(), nil, 0, nil},
		{ride("a 5", ""), shownCosts(), nil, 0, nil},
		{ride("", "a 5 b 6"), shownCosts(), nil, 40, nil},
		{ride("a 5", "b 5"), shownCosts(), nil, 20, nil},
		{ride("a 5", "a 500"), shownCosts(), pairs(0, 0), 0, pairs(0, 0)},
		// Of one cost most pairs; but a pair is sure only if each alignment of this cost has it.
		{ride("a 5", "a 5"), costs(0, 0, 0), pairs(0, 0), 0, nil},
		{ride("a 5 a 9", "a 5 a 9"), costs(0, 0, 0), pairs(0, 0, 1, 1), 0, nil},
		{ride("a 0 a 30", "a 0 a 10"), costs(20, 0, 1), pairs(0, 0, 1, 1), 20, nil},
		{ride("a 0 a 31", "a 0 a 10"), costs(20, 0, 1), pairs(0, 0), 20, nil},
		{ride("a 0 a 29", "a 0 a 10"), costs(20, 0, 1), pairs(0, 0, 1, 1), 19, pairs(0, 0, 1, 1)},
		// Of as many pairs the least one: by the sight first, then by the mark.
		{ride("a 0 a 10", "a 0"), shownCosts(), pairs(0, 0), 0, nil},
		{ride("a 0", "a 0 a 10"), shownCosts(), pairs(0, 0), 20, nil},
		{ride("a 0 b 10 a 20", "a 0 b 10"), costs(1, 0, 0), pairs(0, 0, 1, 1), 0, pairs(0, 0, 1, 1)},
		{ride("b 0 a 10", "a 0 b 10"), shownCosts(), pairs(0, 1), 20, nil},
		{ride("a 0 a 10 b 20", "a 5 b 15"), costs(20, 0, 1), pairs(0, 1, 1, 2), 0, pairs(0, 1, 1, 2)},
		{ride("a 0 a 10 b 20", "a 0 b 15"), costs(20, 0, 1), pairs(0, 0, 1, 2), 5, pairs(1, 2)},
		{ride("a 0 a 10 b 20", "a 0 b 15"), costs(20, 1, 1), pairs(0, 1, 1, 2), 5, pairs(0, 1, 1, 2)},
		// No mark before the first pair or behind the last one is unseen.
		{ride("b 0 a 10 b 20", "a 10"), costs(1, 1000, 1), pairs(0, 1), 0, pairs(0, 1)},
		{ride("a 0 b 10 a 20", "a 0 a 20"), costs(9, 9, 1), pairs(0, 0, 1, 2), 9, nil},
		{ride("a 0 b 10 a 20", "a 0 a 20"), costs(9, 10, 1), pairs(0, 0), 9, nil},
		{ride("a 0 b 10 a 20", "a 0 a 20"), costs(9, 8, 1), pairs(0, 0, 1, 2), 8, pairs(0, 0, 1, 2)},
		// A sure pair between ones that are not.
		{ride("a 0 a 2 b 20 c 40 c 42", "a 1 b 20 c 41"), costs(9, 0, 1), pairs(0, 0, 1, 2, 2, 3), 2, pairs(1, 2)},
		{ride("a 0 b 100000000", "a 0 b 1"), costs(1000, 0, 1000), pairs(0, 0), 1000, nil},
		{ride("a 0 b 100000000", "a 0 b 99999999"), costs(1000, 0, 1000), pairs(0, 0, 1, 1), 1000, nil},
	} {
		l, n, e := align.Aligned(x.r, x.c)
		want(t, "Aligned", list(i, l, n, e), list(i, x.l, x.cost, api.OK))
		sure, e := align.Sure(x.r, x.c)
		want(t, "Sure", list(i, sure, e), list(i, x.sure, api.OK))
		n, e = align.Cost(x.r, x.c, x.l)
		want(t, "Cost", list(i, n, e), list(i, x.cost, api.OK))
	}
}

// TestAllAlignments checks the results of small rides against all their alignments.
func TestAllAlignments(t *testing.T) {
	g := source(1)
	for i := range 4000 {
		r, c := someRide(g, 5, 1+g.IntN(3), 6+g.IntN(30)), someCosts(g, 1<<g.IntN(5))
		best, cost, surest := leastOf(r, c)
		l, n, e := align.Aligned(r, c)
		sure, f := align.Sure(r, c)
		want(t, "Aligned and Sure", list(i, r, c, l, n, e, sure, f), list(i, r, c, best, cost, api.OK, surest, api.OK))
		for range 4 {
			l := somePairs(g, r)
			n, e := align.Cost(r, c, l)
			want(t, "Cost", list(i, r, c, l, n, e), list(i, r, c, l, costOf(r, c, l), api.OK))
		}
	}
}

// TestGreatCosts checks costs that are greater than all limits.
func TestGreatCosts(t *testing.T) {
	r := ride("a 0 b 50000000 a 100000000", "a 0 c 1 a 2 a 100000000")
	c := costs(1000, 1000, 1000)
	for i, x := range []struct {
		l    []align.Pair
		cost int
	}{{pairs(0, 0, 2, 2), 2000 + 1000 + 1000*99999998}, {pairs(0, 0, 3, 2), 2000 + 1000}, {pairs(0, 2), 3000}} {
		n, e := align.Cost(r, c, x.l)
		want(t, "Cost", list(i, n, e), list(i, x.cost, api.OK))
	}
	zigzag := align.Ride{}
	for i := range 64 {
		zigzag.Marks = append(zigzag.Marks, align.Mark{Kind: "a", Place: i})
		zigzag.Sights = append(zigzag.Sights, align.Sight{Kind: "a", Count: i * 1587301})
	}
	var all []align.Pair
	for i := range 64 {
		all = append(all, align.Pair{Sight: i, Mark: i})
	}
	n, e := align.Cost(zigzag, c, all)
	want(t, "Cost of 64 pairs", list(n, e), list(63*1000*1587300, api.OK))
	l, n, e := align.Aligned(zigzag, c)
	want(t, "Aligned of 64 marks that fit nothing", list(l, n, e), list(pairs(0, 0), 63000, api.OK))
}

// TestGreatRides checks alignments of 64 marks and sights.
func TestGreatRides(t *testing.T) {
	r := many(64)
	var all []align.Pair
	for i := range 64 {
		all = append(all, align.Pair{Sight: i, Mark: i})
	}
	for i, x := range []struct {
		c    align.Costs
		sure []align.Pair
	}{{shownCosts(), all}, {costs(1, 0, 0), all}, {costs(0, 0, 0), nil}, {costs(0, 1, 1), nil}, {costs(1000, 1000, 1000), all}} {
		l, n, e := align.Aligned(r, x.c)
		want(t, "Aligned", list(i, l, n, e), list(i, all, 0, api.OK))
		sure, e := align.Sure(r, x.c)
		want(t, "Sure", list(i, sure, e), list(i, x.sure, api.OK))
	}
}
