package quality_test

import (
	"math/big"
	"math/rand/v2"
	"testing"

	"versine/api"
	"versine/quality"
)

// TestFits checks example 4, and the edges of errors.
func TestFits(t *testing.T) {
	empty := section("a", measured(0, 5), acts(9)...)
	for i, x := range []struct {
		s             quality.Section
		period, wrong int
		l             quality.Line
		is            bool
	}{
		{north(), 1, 1, line(30, 59, 1, 4, 5), true}, {north(), 1, 1, line(30, 60, 1, 7, 10), true}, {north(), 1, 1, line(30, 59, 1, 3, 4), true}, {north(), 1, 1, line(30, 119, 2, 3, 4), true},
		{north(), 1, 1, line(30, 60, 1, 4, 5), false}, {north(), 1, 1, line(30, 58, 1, 4, 5), false}, {north(), 1, 1, line(30, 59, 1, 7, 10), false}, {north(), 1, 1, line(30, 60, 1, 69, 100), false},
		{north(), 1, 0, line(30, 119, 2, 3, 4), false}, {north(), 1, 2, line(30, 61, 1, 7, 10), true}, {north(), 1, 100000, line(0, 0, 1, 0, 1), true},
		{north(), 0, 0, line(0, 100, 1, 2, 1), true}, {north(), 0, 0, line(20, 140, 1, 2, 1), true}, {north(), 0, 0, line(10, 120, 1, 2, 1), true}, {north(), 0, 0, line(100000, 200100, 1, 2, 1), true},
		{north(), 0, 0, line(0, 100, 1, 1, 1), false}, {north(), 0, 0, line(0, 101, 1, 2, 1), false}, {north(), 0, 20, line(0, 100, 1, 1, 1), true}, {north(), 0, 19, line(0, 100, 1, 1, 1), false},
		{only(10, 5), 0, 0, line(0, 5, 1, 0, 1), true}, {only(10, 5), 0, 0, line(10, 5, 1, -1000000, 1), true}, {only(10, 5), 0, 0, line(10, 11, 2, 0, 1), false}, {only(10, 5), 0, 1, line(10, 13, 2, 0, 1), false},
		{only(10, 5), 0, 1, line(10, 6, 1, 0, 1), true}, {only(10, 5), 0, 1, line(10, 4, 1, 0, 1), true}, {only(10, 5), 0, 1, line(11, 4, 1, 1, 1), false},
		{empty, 1, 0, line(0, 0, 1, 0, 1), true}, {empty, 1, 0, line(7, -1000000, 1, 1000000, 1), true}, {section("a", nil), 0, 0, line(7, 3, 4, 5, 6), true}, {empty, 0, 0, line(0, 0, 1, 0, 1), false},
		{only(0, 100000, 100000, 0), 0, 100000, line(50000, 0, 1, 1, 1), false}, {only(0, 100000, 100000, 0), 0, 100000, line(50000, 50000, 1, 1, 1), true},
		{only(0, 0, 100000, 100000), 0, 0, line(100000, 100000, 1, 1, 1), true}, {only(0, 0, 100000, 100000), 0, 0, line(0, 1, 1000000, 1, 1), false},
		{only(0, 0, 100000, 100000), 0, 100000, line(0, 1, 1000000, 1, 999999), true}, {only(0, 0, 100000, 100000), 0, 100000, line(0, -1000000, 999999, 0, 1), false},
		{only(0, 0, 100000, 0), 0, 100000, line(100000, 0, 1, -999999, 1000000), true}, {only(0, 0, 100000, 0), 0, 99999, line(100000, 0, 1, -999999, 1000000), false},
		{only(0, 0, 100000, 100000), 0, 100000, line(100000, 1000000, 1, 1000000, 1), false}, {only(0, 100000), 0, 100000, line(100000, -1000000, 1, 1000000, 1), false},
	} {
		is, e := quality.Fits(x.s, x.period, x.wrong, x.l)
		want(t, "Fits", list(i, is, e), list(i, x.is, api.OK))
	}
}

// someLine returns a line that is near to one through two of at least two measurements.
func someLine(g *rand.Rand, m []quality.Measurement, wrong int) quality.Line {
	i := g.IntN(len(m) - 1)
	a, b := m[i], m[between(g, i+1, len(m)-1)]
	level := a.Index + between(g, -wrong, wrong)
	rise := b.Index + between(g, -wrong, wrong) - level
	l := quality.Line{Day: a.Day, Level: ratio(level, 1), Slope: ratioOf(fraction(rise, b.Day-a.Day))}
	if g.IntN(2) == 0 {
		l.Level = ratioOf(plus(whole(level), fraction(between(g, -1, 1), between(g, 1, 1000000))))
	}
	if g.IntN(2) == 0 { // by the value on another day
		if on := g.IntN(api.MaxDay + 1); valueOn(l, on).Num().IsInt64() {
			l.Day, l.Level = on, ratioOf(valueOn(l, on))
		}
	}
	return l
}

// isPermitted reports whether the integers of a line are as small as those of an argument must be.
func isPermitted(l quality.Line) bool {
	for _, n := range ints(l.Level.Num, l.Level.Den, l.Slope.Num, l.Slope.Den) {
		if max(n, -n) > 1000000 {
			return false
		}
	}
	return true
}

// TestFitsByDefinition checks lines against all measurements.
func TestFitsByDefinition(t *testing.T) {
	g := source(20)
	fit, miss := 0, 0
	for range 6000 {
		s := someSection(g, 12, 3, 1<<between(g, 2, 16), 1<<between(g, 1, 16))
		period, isAny := longPeriod(g, s)
		if !isAny {
			continue
		}
		m, wrong := periodOf(s, period), g.IntN(1<<g.IntN(16))
		l := someLine(g, m, wrong)
		if !isPermitted(l) {
			continue
		}
		is, e := quality.Fits(s, period, wrong, l)
		want(t, "Fits", list(s, period, wrong, l, is, e), list(s, period, wrong, l, fitsBy(l, m, wrong), api.OK))
		if is {
			fit++
		} else {
			miss++
		}
	}
	if fit < 500 || miss < 500 {
		t.Errorf("too few lines: %v fit, %v do not", fit, miss)
	}
}

// slopesOf returns the least and the greatest slope of lines that fit, of which the first one is the greater one if no line fits: each two measurements bound the slope by their differences, and twice the error.
func slopesOf(m []quality.Measurement, wrong int) (least, greatest *big.Rat) {
	for i, a := range m {
		for _, b := range m[i+1:] {
			low, high := fraction(b.Index-a.Index-2*wrong, b.Day-a.Day), fraction(b.Index-a.Index+2*wrong, b.Day-a.Day)
			if least == nil || low.Cmp(least) > 0 {
				least = low
			}
			if greatest == nil || high.Cmp(greatest) < 0 {
				greatest = high
			}
		}
	}
	return least, greatest
}

// highest returns the greatest value on a day of lines with a slope that are at most so much above all measurements.
func highest(m []quality.Measurement, wrong, day int, slope *big.Rat) *big.Rat {
	var value *big.Rat
	for _, x := range m {
		if v := plus(whole(x.Index+wrong), times(slope, whole(day-x.Day))); value == nil || v.Cmp(value) < 0 {
			value = v
		}
	}
	return value
}

// greatestOn returns the greatest value on a day of lines that fit, and whether any fits. By the slope, the highest value is a concave function, with corners where two measurements permit as much: it is greatest at one of these, or at an end.
func greatestOn(m []quality.Measurement, wrong, day int) (*big.Rat, bool) {
	least, greatest := slopesOf(m, wrong)
	if least.Cmp(greatest) > 0 {
		return nil, false
	}
	slopes := []*big.Rat{least, greatest}
	for i, a := range m {
		for _, b := range m[i+1:] {
			if s := fraction(b.Index-a.Index, b.Day-a.Day); s.Cmp(least) > 0 && s.Cmp(greatest) < 0 {
				slopes = append(slopes, s)
			}
		}
	}
	var value *big.Rat
	for _, s := range slopes {
		if v := highest(m, wrong, day, s); value == nil || v.Cmp(value) > 0 {
			value = v
		}
	}
	return value, true
}

// rangeOf returns both ends of a range, and whether any line fits: the least value is the greatest one upside down.
func rangeOf(m []quality.Measurement, wrong, day int) ([2]api.Ratio, bool) {
	var turned []quality.Measurement
	for _, x := range m {
		turned = append(turned, measurement(x.Day, -x.Index))
	}
	high, isAny := greatestOn(m, wrong, day)
	if !isAny {
		return [2]api.Ratio{}, false
	}
	low, _ := greatestOn(turned, wrong, day)
	return [2]api.Ratio{ratioOf(new(big.Rat).Neg(low)), ratioOf(high)}, true
}

// TestRange checks example 4, and ranges before, between and behind measurements.
func TestRange(t *testing.T) {
	for i, x := range []struct {
		s                  quality.Section
		period, wrong, day int
		r                  [2]api.Ratio
		e                  api.Errno
	}{
		{north(), 1, 1, 30, [2]api.Ratio{ratio(59, 1), ratio(60, 1)}, api.OK},
		{north(), 1, 1, 40, [2]api.Ratio{ratio(133, 2), ratio(67, 1)}, api.OK},
		{north(), 1, 1, 50, [2]api.Ratio{ratio(74, 1), ratio(75, 1)}, api.OK},
		{north(), 1, 1, 60, [2]api.Ratio{ratio(81, 1), ratio(83, 1)}, api.OK},
		{north(), 1, 1, 0, [2]api.Ratio{ratio(35, 1), ratio(39, 1)}, api.OK},
		{north(), 1, 0, 60, [2]api.Ratio{}, api.ErrInfeasible},
		{north(), 0, 0, 0, [2]api.Ratio{ratio(100, 1), ratio(100, 1)}, api.OK},
		{north(), 0, 0, 25, [2]api.Ratio{ratio(150, 1), ratio(150, 1)}, api.OK},
		{north(), 0, 0, 100000, [2]api.Ratio{ratio(200100, 1), ratio(200100, 1)}, api.OK},
		{north(), 0, 1, 10, [2]api.Ratio{ratio(119, 1), ratio(121, 1)}, api.OK},
		{north(), 0, 1, 30, [2]api.Ratio{ratio(158, 1), ratio(162, 1)}, api.OK},
		{only(10, 5, 20, 5), 0, 1, 15, [2]api.Ratio{ratio(4, 1), ratio(6, 1)}, api.OK},
		{only(10, 5, 20, 5), 0, 1, 0, [2]api.Ratio{ratio(2, 1), ratio(8, 1)}, api.OK},
		{only(10, 5, 20, 5), 0, 1, 30, [2]api.Ratio{ratio(2, 1), ratio(8, 1)}, api.OK},
		{only(10, 5, 20, 5), 0, 7, 100, [2]api.Ratio{ratio(-114, 1), ratio(124, 1)}, api.OK},
		{only(10, 0, 13, 1), 0, 0, 11, [2]api.Ratio{ratio(1, 3), ratio(1, 3)}, api.OK},
		{only(10, 0, 20, 2, 30, 0), 0, 0, 20, [2]api.Ratio{}, api.ErrInfeasible},
		{only(10, 0, 20, 2, 30, 0), 0, 1, 20, [2]api.Ratio{ratio(1, 1), ratio(1, 1)}, api.OK}, // one line alone
		{only(10, 0, 20, 2, 30, 0), 0, 1, 10000, [2]api.Ratio{ratio(1, 1), ratio(1, 1)}, api.OK},
		{only(10, 0, 20, 3, 30, 0), 0, 1, 20, [2]api.Ratio{}, api.ErrInfeasible},
		{only(0, 0, 1, 100000), 0, 100000, 100000, [2]api.Ratio{ratio(-9999900000, 1), ratio(29999900000, 1)}, api.OK},
		{only(99999, 0, 100000, 100000), 0, 0, 0, [2]api.Ratio{ratio(-9999900000, 1), ratio(-9999900000, 1)}, api.OK},
	} {
		r, e := quality.Range(x.s, x.period, x.wrong, x.day)
		want(t, "Range", list(i, r, e), list(i, x.r, x.e))
	}
}

// wrongFor returns an error by which lines may fit measurements, or not.
func wrongFor(g *rand.Rand, m []quality.Measurement) int {
	day, level, slope := leastLine(m)
	greatest := 0
	for _, x := range m {
		off := minus(plus(level, times(slope, whole(x.Day-day))), whole(x.Index))
		f, _ := off.Abs(off).Float64()
		greatest = max(greatest, int(f))
	}
	switch g.IntN(6) {
	case 0:
		return min(g.IntN(2*greatest+5), 100000)
	case 1:
		return g.IntN(100001)
	}
	return min(max(greatest+between(g, -3, 3), 0), 100000)
}

// TestRangeByDefinition checks both ends of ranges against the greatest and the least value by all slopes.
func TestRangeByDefinition(t *testing.T) {
	g := source(21)
	right := map[api.Errno]int{}
	for range 1200 {
		s := someSection(g, 1<<between(g, 2, 5), 3, 1<<between(g, 3, 16), 1<<between(g, 1, 16))
		period, isAny := longPeriod(g, s)
		if !isAny {
			continue
		}
		m := periodOf(s, period)
		wrong := wrongFor(g, m)
		for _, day := range ints(0, api.MaxDay, m[0].Day, m[len(m)-1].Day, between(g, m[0].Day, m[len(m)-1].Day), g.IntN(api.MaxDay+1)) {
			wanted, isAny := rangeOf(m, wrong, day)
			r, e := quality.Range(s, period, wrong, day)
			right[e]++
			if !isAny {
				want(t, "Range", list(s, period, wrong, day, r, e), list(s, period, wrong, day, [2]api.Ratio{}, api.ErrInfeasible))
				continue
			}
			want(t, "Range", list(s, period, wrong, day, r, e), list(s, period, wrong, day, wanted, api.OK))
		}
	}
	if right[api.OK] < 2000 || right[api.ErrInfeasible] < 500 {
		t.Errorf("too few ranges: %v", right)
	}
}

// TestDates checks example 5, lines that fall, and limits that are never reached.
func TestDates(t *testing.T) {
	level, falling := only(10, 5, 20, 5), only(10, 9, 20, 7)
	for i, x := range []struct {
		s                    quality.Section
		period, wrong, limit int
		earliest, latest     int // -1: none
	}{
		{north(), 1, 1, 90, 69, 73}, {north(), 1, 1, 75, 50, 52}, {north(), 1, 1, 74, 50, 50}, {north(), 1, 1, 76, 52, 53}, {north(), 1, 1, 0, 50, 50}, {north(), 1, 1, 100000, -1, -1},
		{north(), 0, 0, 160, 30, 30}, {north(), 0, 0, 161, 31, 31}, {north(), 0, 0, 140, 20, 20}, {north(), 0, 0, 0, 20, 20},
		{north(), 0, 2, 140, 20, 22}, {north(), 0, 2, 160, 29, 33},
		{level, 0, 0, 5, 20, 20}, {level, 0, 0, 6, -1, -1}, {level, 0, 1, 4, 20, 20}, {level, 0, 1, 5, 20, -1}, {level, 0, 1, 6, 20, -1}, {level, 0, 1, 7, 25, -1}, {level, 0, 1, 8, 30, -1},
		{falling, 0, 0, 7, 20, 20}, {falling, 0, 0, 8, -1, -1}, {falling, 0, 1, 8, 20, -1}, {falling, 0, 1, 9, -1, -1}, {falling, 0, 2, 9, 20, -1}, {falling, 0, 2, 10, 25, -1}, {falling, 0, 1, 6, 20, 20},
		{only(10, 0, 20, 5), 0, 2, 5, 20, 40}, {only(0, 0, 1, 1), 0, 0, 100000, 100000, 100000}, {only(1, 0, 2, 1), 0, 0, 100000, -1, -1}, {only(1, 0, 2, 1), 0, 0, 99999, 100000, 100000},
		{only(99999, 0, 100000, 2), 0, 1, 3, 100000, -1}, {only(99999, 0, 100000, 2), 0, 1, 1, 100000, 100000}, {only(99999, 0, 100000, 2), 0, 1, 4, -1, -1}, {only(99998, 0, 99999, 2), 0, 1, 1, 99999, 99999},
		{only(99998, 0, 99999, 2), 0, 1, 2, 99999, -1}, {only(99998, 0, 99999, 5), 0, 1, 7, 100000, 100000}, {only(99998, 0, 99999, 5), 0, 1, 8, 100000, -1},
		{only(0, 0, 100000, 100000), 0, 100000, 100000, 100000, -1}, {only(0, 0, 50000, 25000), 0, 0, 50000, 100000, 100000},
	} {
		day, e := quality.Earliest(x.s, x.period, x.wrong, x.limit)
		want(t, "Earliest", list(i, day, e), dayList(i, x.earliest))
		day, e = quality.Latest(x.s, x.period, x.wrong, x.limit)
		want(t, "Latest", list(i, day, e), dayList(i, x.latest))
	}
}

// dayList returns what is expected for a day, or for -1.
func dayList(i, day int) []any {
	if day < 0 {
		return list(i, 0, api.ErrNone)
	}
	return list(i, day, api.OK)
}

// datesOf returns the first days from the last day of measurements on on which the greatest, and on which the least value of lines that fit is at least a limit, or -1.
func datesOf(m []quality.Measurement, wrong, limit int) (earliest, latest int) {
	var days [2]int
	for end := range days {
		day, isAny := firstDay(m[len(m)-1].Day, func(day int) bool {
			r, _ := rangeOf(m, wrong, day)
			return rat(r[1-end]).Cmp(whole(limit)) >= 0
		})
		if days[end] = day; !isAny {
			days[end] = -1
		}
	}
	return days[0], days[1]
}

// TestDatesByDefinition checks dates against ranges on all days.
func TestDatesByDefinition(t *testing.T) {
	g := source(22)
	later, never, turns := 0, 0, 0
	for range 800 {
		s := section("a", nil)
		bound := 1 << between(g, 2, 16)
		last := api.MaxDay - g.IntN(60)
		for _, day := range ascending(g, between(g, 2, 5), last-between(g, 5, 60), last) {
			s.Measured = append(s.Measured, measurement(day, g.IntN(bound)))
		}
		m := s.Measured
		wrong := wrongFor(g, m)
		if _, isAny := rangeOf(m, wrong, 0); !isAny {
			continue
		}
		limit := min(max(m[len(m)-1].Index+between(g, -wrong-3, wrong+g.IntN(bound)), 0), 100000)
		earliest, latest := datesOf(m, wrong, limit)
		day, e := quality.Earliest(s, 0, wrong, limit)
		want(t, "Earliest", list(s, wrong, limit, day, e), append(list(s, wrong), dayList(limit, earliest)...))
		day, e = quality.Latest(s, 0, wrong, limit)
		want(t, "Latest", list(s, wrong, limit, day, e), append(list(s, wrong), dayList(limit, latest)...))
		switch {
		case earliest < 0:
			never++
		case latest < 0:
			turns++
		case earliest < latest:
			later++
		}
	}
	if later < 40 || never < 40 || turns < 40 {
		t.Errorf("too few dates: %v, %v, %v", later, never, turns)
	}
}

// TestFallingLines checks a limit that all lines reach on one day or another, but on no day all of them.
func TestFallingLines(t *testing.T) {
	g := source(23)
	crossing := 0
	for range 20000 {
		at := api.MaxDay - 100
		s := only(at, g.IntN(40), at+between(g, 1, 6), g.IntN(40), at+between(g, 7, 12), g.IntN(40))
		m, wrong, limit := s.Measured, between(g, 5, 25), g.IntN(60)
		if _, isAny := rangeOf(m, wrong, 0); !isAny {
			continue
		}
		r, _ := quality.Range(s, 0, wrong, m[2].Day)
		end, _ := quality.Range(s, 0, wrong, api.MaxDay)
		if rat(r[0]).Cmp(whole(limit)) >= 0 || rat(end[0]).Cmp(whole(limit)) >= 0 {
			continue
		}
		day, e := quality.Latest(s, 0, wrong, limit)
		_, latest := datesOf(m, wrong, limit)
		want(t, "Latest", list(s, wrong, limit, day, e), append(list(s, wrong), dayList(limit, latest)...))
		if crossing++; crossing == 200 {
			return
		}
	}
	t.Errorf("too few lines cross: %v", crossing)
}
