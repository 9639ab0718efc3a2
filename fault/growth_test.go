package fault_test

import (
	"math/big"
	"math/rand/v2"
	"testing"

	"versine/api"
	"versine/fault"
	"versine/sample"
)

// TestGrown checks example 5, and edges of bands and spans.
func TestGrown(t *testing.T) {
	for i, x := range []struct {
		a, b   sample.Run
		bands  [2]int
		growth []fault.Growth
	}{
		{shownRun(), laterRun(), [2]int{8, 4}, []fault.Growth{grown(101, 102, 18), grown(106, 107, 18)}},
		{shownRun(), laterRun(), [2]int{4, 8}, []fault.Growth{grown(101, 102, 18), grown(106, 107, 18)}},
		{shownRun(), laterRun(), [2]int{0, 29}, []fault.Growth{grown(101, 102, 1), grown(106, 107, 1)}},
		{shownRun(), laterRun(), [2]int{29, 0}, []fault.Growth{grown(101, 102, 1), grown(106, 107, 1)}},
		{shownRun(), laterRun(), [2]int{15, 15}, nil},
		{shownRun(), laterRun(), [2]int{1000, 1000}, nil},
		{laterRun(), shownRun(), [2]int{}, nil},
		{shownRun(), shownRun(), [2]int{}, nil},
		{run(5), run(5), [2]int{}, nil},
		{run(5, 0, 0, 0), run(5, 1, -1, 0), [2]int{}, []fault.Growth{grown(5, 7, 1)}},
		{run(5, -9, 9, -9), run(5, 10, -12, 11), [2]int{}, []fault.Growth{grown(5, 8, 3)}},
		{run(5, 1, 1, 1, 1), run(5, 9, none, 8, 7), [2]int{}, []fault.Growth{grown(5, 6, 8), grown(7, 9, 7)}},
		{run(5, 1, none, 1, 1), run(5, 9, 9, 8, 7), [2]int{}, []fault.Growth{grown(5, 6, 8), grown(7, 9, 7)}},
		{run(5, none, 1), run(5, none, 9), [2]int{1, 2}, []fault.Growth{grown(6, 7, 5)}},
		{run(5, 1, 1, 1), run(5, 3, 2, 3), [2]int{1, 0}, []fault.Growth{grown(5, 6, 1), grown(7, 8, 1)}},
		{run(5, 1, 1, 1), run(5, -9, 20, 5), [2]int{1, 1}, []fault.Growth{grown(5, 8, 17)}},
	} {
		growth, e := fault.Grown(x.a, x.b, x.bands)
		want(t, "Grown", list(i, growth, e), list(i, x.growth, api.OK))
	}
}

// growthsOf returns the growths by their definition.
func growthsOf(a, b sample.Run, bands [2]int) []fault.Growth {
	before, after := placesOf(a), placesOf(b)
	least := func(i int) int {
		return (absolute(after[i].integer) - bands[1]) - (absolute(before[i].integer) + bands[0])
	}
	var l []fault.Growth
	for _, s := range spans(len(after), func(i int) bool {
		return before[i].isKnown && after[i].isKnown && least(i) > 0
	}) {
		greatest := 0
		for i := s.From; i < s.To; i++ {
			greatest = max(greatest, least(i))
		}
		l = append(l, grown(a.First+s.From, a.First+s.To, greatest))
	}
	return l
}

// someBands returns two bands of up to a number.
func someBands(g *rand.Rand, most int) [2]int {
	return [2]int{g.IntN(min(most, 1000) + 1), g.IntN(min(most, 1000) + 1)}
}

// TestGrownByDefinition checks the growths of runs against all spans.
func TestGrownByDefinition(t *testing.T) {
	g := source(5)
	growths := 0
	for range 1500 {
		bound := 1 << between(g, 2, 14)
		a := someRun(g, 30, bound)
		b, bands := likeRun(g, a, bound/2, bound), someBands(g, bound/8)
		l, e := fault.Grown(a, b, bands)
		want(t, "Grown", list(a, b, bands, l, e), list(a, b, bands, growthsOf(a, b, bands), api.OK))
		growths += len(l)
	}
	if growths < 2000 {
		t.Errorf("too few growths: %v", growths)
	}
}

// TestDue checks example 6, and the edges of days and limits.
func TestDue(t *testing.T) {
	a, b := measured(100, 40, 4), measured(200, 50, 5)
	for i, x := range []struct {
		a, b  fault.Measured
		limit int
		day   int
		e     api.Errno
	}{
		{a, b, 64, 248, api.OK},
		{a, b, 54, 200, api.OK},
		{a, b, 55, 201, api.OK},
		{a, b, 0, 200, api.OK},
		{a, b, 56, 206, api.OK}, // 19 in 100 days: 1 in 5.26
		{a, b, 74, 301, api.OK}, // reached on the day 300
		{a, b, 16384, 86143, api.OK},
		{a, measured(200, 30, 6), 36, 0, api.ErrNone}, // as high as at first
		{a, measured(200, 30, 6), 35, 200, api.OK},
		{a, measured(200, 30, 5), 35, 0, api.ErrNone}, // it falls
		{a, measured(200, 30, 5), 34, 200, api.OK},
		{a, measured(200, 30, 7), 36, 200, api.OK},
		{a, measured(200, 30, 7), 37, 201, api.OK},
		{measured(0, 0, 0), measured(1, 0, 0), 0, 0, api.ErrNone},
		{measured(0, 0, 0), measured(1, 0, 1), 0, 1, api.OK},
		{measured(0, 0, 1), measured(1, 0, 0), 0, 2, api.OK},
		{measured(0, 5, 1000), measured(1, 5, 0), 5, 2, api.OK},
		{measured(0, 0, 0), measured(50000, 10, 0), 19, 95001, api.OK},
		{measured(0, 0, 0), measured(50000, 10, 0), 20, 0, api.ErrNone}, // 100001
		{measured(1, 0, 0), measured(50000, 10, 0), 20, 100000, api.OK},
		{measured(0, 0, 0), measured(33333, 1, 0), 2, 66667, api.OK},
		{measured(0, 0, 0), measured(33333, 1, 0), 3, 100000, api.OK},
		{measured(1, 0, 0), measured(33334, 1, 0), 3, 0, api.ErrNone}, // 100001
		{measured(99999, 0, 0), measured(100000, 1, 0), 0, 100000, api.OK},
		{measured(99999, 0, 0), measured(100000, 1, 0), 1, 0, api.ErrNone},
	} {
		day, e := fault.Due(x.a, x.b, x.limit)
		want(t, "Due", list(i, day, e), list(i, x.day, x.e))
	}
}

// above reports whether the steepest line of two measurements is above a limit on a day, without any bounds.
func above(a, b fault.Measured, limit, day int) bool {
	from, to := big.NewRat(int64(a.Value-a.Band), 1), big.NewRat(int64(b.Value+b.Band), 1)
	rise := new(big.Rat).Sub(to, from)
	passed := big.NewRat(int64(day-a.Day), int64(b.Day-a.Day))
	level := rise.Mul(rise, passed)
	return level.Add(level, from).Cmp(big.NewRat(int64(limit), 1)) > 0
}

// someMeasured returns two measurements, of which the second one is mostly the greater one.
func someMeasured(g *rand.Rand, days, bound int) (fault.Measured, fault.Measured) {
	first := g.IntN(100000)
	second := min(first+between(g, 1, days), 100000)
	a, b := g.IntN(bound), g.IntN(bound)
	if g.IntN(5) > 0 {
		a, b = min(a, b), max(a, b)
	}
	return measured(first, a, g.IntN(min(bound, 1001))), measured(second, b, g.IntN(min(bound, 1001)))
}

// TestDueByDefinition checks the day on which a limit is due against the line on all days from the second measurement's on.
func TestDueByDefinition(t *testing.T) {
	g := source(6)
	later := 0
	for range 400 {
		bound := 1 << between(g, 1, 14)
		a, b := someMeasured(g, 1<<g.IntN(16), bound)
		limit := g.IntN(min(2*bound, 16384) + 1)
		wanted, e := 0, api.ErrNone
		for day := b.Day; day <= 100000 && e != api.OK; day++ {
			if above(a, b, limit, day) {
				wanted, e = day, api.OK
			}
		}
		day, f := fault.Due(a, b, limit)
		want(t, "Due", list(a, b, limit, day, f), list(a, b, limit, wanted, e))
		if e == api.OK && day > b.Day {
			later++
		}
	}
	if later < 60 {
		t.Errorf("too few limits are due later: %v", later)
	}
}
