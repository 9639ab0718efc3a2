package quality_test

import (
	"slices"
	"testing"

	"versine/api"
	"versine/quality"
)

// TestRanked checks example 6, and sections that reach a limit on one day, or never.
func TestRanked(t *testing.T) {
	rising, level := measured(0, 0, 10, 10), measured(0, 5, 10, 5)
	for i, x := range []struct {
		l      []quality.Section
		limit  int
		ranked []int
	}{
		{shownSections(), 90, ints(2, 1, 0)},
		{shownSections()[:2], 90, ints(1, 0)},
		{shownSections()[:1], 90, ints(0)},
		{nil, 90, nil},
		{[]quality.Section{north(), section("two", measured(0, 80, 10, 85))}, 90, ints(1, 0)},
		{[]quality.Section{section("two", measured(0, 80, 10, 85)), north()}, 90, ints(0, 1)},
		{[]quality.Section{section("b", rising), section("a", rising), section("c", rising)}, 20, ints(0, 1, 2)}, // by their order, not by their names
		{[]quality.Section{section("b", level), section("a", nil), section("c", rising), section("d", level)}, 20, ints(2, 0, 1, 3)},
		{[]quality.Section{section("b", level), section("a", nil), section("c", rising), section("d", level)}, 5, ints(0, 2, 3, 1)},
		{[]quality.Section{section("a", measured(0, 0, 10, 10), acts(10)...), section("b", measured(0, 0, 10, 1))}, 20, ints(1, 0)}, // the last period has one measurement
		{[]quality.Section{section("a", measured(0, 9, 10, 10, 20, 0, 30, 1), acts(15)...), section("b", measured(20, 0, 30, 2))}, 5, ints(1, 0)},
		{[]quality.Section{section("a", rising, acts(11)...), section("b", rising)}, 10, ints(1, 0)},                                         // the last period is empty
		{[]quality.Section{only(0, 0, 1, 1), section("b", measured(1, 0, 2, 1)), section("c", measured(0, 0, 1, 2))}, 100000, ints(2, 0, 1)}, // on the day 100000, and never
		{[]quality.Section{section("b", measured(1, 0, 2, 1)), only(0, 0, 1, 1)}, 100000, ints(1, 0)},
	} {
		l, e := quality.Ranked(x.l, x.limit)
		want(t, "Ranked", list(i, l, e), list(i, x.ranked, api.OK))
	}
	l, e := quality.Ranked(manySections(32), 0)
	want(t, "Ranked of many", list(len(l), e), list(32, api.OK))
}

// TestRankedByDefinition checks that each section stands once, before all that reach the limit later, or as late behind it.
func TestRankedByDefinition(t *testing.T) {
	g := source(30)
	order, ties, never := 0, 0, 0
	for range 500 {
		var l []quality.Section
		limit := g.IntN(300)
		days := map[int]int{}
		for i := range g.IntN(33) {
			s := someSection(g, 8, 1, 12, 200)
			if s.Name = nameOf(i); i > 0 && g.IntN(3) == 0 { // another one with the same line
				s.Measured, s.Acts = l[i-1].Measured, l[i-1].Acts
			}
			l = append(l, s)
			day, e := quality.Reached(s, len(s.Acts), limit)
			if days[i] = day; e != api.OK {
				days[i] = api.MaxDay + 1
				never++
			}
		}
		ranked, e := quality.Ranked(l, limit)
		want(t, "the error of Ranked", list(e), list(api.OK))
		for k := 1; k < len(ranked); k++ {
			a, b := ranked[k-1], ranked[k]
			switch {
			case days[a] < days[b]:
				order++
			case days[a] == days[b] && a < b:
				ties++
			default:
				t.Errorf("Ranked of %v by %v: got %v", l, limit, ranked)
			}
		}
		slices.Sort(ranked)
		for i := range l {
			want(t, "each section", list(ranked[i], len(ranked)), list(i, len(l)))
		}
	}
	if order < 1000 || ties < 1000 || never < 500 {
		t.Errorf("too few sections: %v, %v, %v", order, ties, never)
	}
}
