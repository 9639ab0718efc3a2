package quality_test

import (
	"math/big"
	"testing"

	"versine/api"
	"versine/quality"
)

// TestFitted checks examples 2 and 3, and lines in lowest terms.
func TestFitted(t *testing.T) {
	for i, x := range []struct {
		s      quality.Section
		period int
		l      quality.Line
	}{
		{north(), 0, line(0, 100, 1, 2, 1)},
		{north(), 1, line(30, 119, 2, 3, 4)},
		{only(5, 7, 6, 7), 0, line(5, 7, 1, 0, 1)},
		{only(5, 0, 6, 0), 0, line(5, 0, 1, 0, 1)},
		{only(5, 0, 8, 1), 0, line(5, 0, 1, 1, 3)},
		{only(5, 1, 8, 0), 0, line(5, 1, 1, -1, 3)},
		{only(0, 0, 1, 0, 2, 1), 0, line(0, -1, 6, 1, 2)}, // below 0 at first
		{only(0, 1, 1, 0, 2, 0, 4, 0), 0, line(0, 3, 5, -1, 5)},
		{only(0, 0, 100000, 100000), 0, line(0, 0, 1, 1, 1)},
		{only(0, 100000, 100000, 0), 0, line(0, 100000, 1, -1, 1)},
		{only(99999, 0, 100000, 100000), 0, line(99999, 0, 1, 100000, 1)},
	} {
		l, e := quality.Fitted(x.s, x.period)
		want(t, "Fitted", list(i, l, e), list(i, x.l, api.OK))
	}
}

// leastLine returns the least squares line by the mean of days, the mean of indices, and the differences to both, without bounds.
func leastLine(m []quality.Measurement) (day int, level, slope *big.Rat) {
	days, indices, n := new(big.Rat), new(big.Rat), whole(len(m))
	for _, x := range m {
		days, indices = plus(days, by(whole(x.Day), n)), plus(indices, by(whole(x.Index), n))
	}
	products, squares := new(big.Rat), new(big.Rat)
	for _, x := range m {
		d := minus(whole(x.Day), days)
		products = plus(products, times(d, minus(whole(x.Index), indices)))
		squares = plus(squares, times(d, d))
	}
	slope = by(products, squares)
	day = m[0].Day
	return day, plus(indices, times(slope, minus(whole(day), days))), slope
}

// squaresOf returns the sum of the squares of the differences of a line and measurements.
func squaresOf(m []quality.Measurement, day int, level, slope *big.Rat) *big.Rat {
	sum := new(big.Rat)
	for _, x := range m {
		d := minus(plus(level, times(slope, whole(x.Day-day))), whole(x.Index))
		sum = plus(sum, times(d, d))
	}
	return sum
}

// TestLinesByDefinition checks fitted lines, their values on days, and that lines beside them have greater sums of squares.
func TestLinesByDefinition(t *testing.T) {
	g := source(12)
	lines := 0
	for range 1200 {
		s := someSection(g, 32, 5, 1<<between(g, 2, 16), 1<<between(g, 1, 16))
		period, isAny := longPeriod(g, s)
		if !isAny {
			continue
		}
		lines++
		m := periodOf(s, period)
		day, level, slope := leastLine(m)
		l, e := quality.Fitted(s, period)
		want(t, "Fitted", list(s, period, l, e), list(s, period, quality.Line{Day: day, Level: ratioOf(level), Slope: ratioOf(slope)}, api.OK))
		least := squaresOf(m, day, level, slope)
		for _, move := range [][2]*big.Rat{{fraction(1, 1000), whole(0)}, {fraction(-1, 1000), whole(0)}, {whole(0), fraction(1, 1000)}, {whole(0), fraction(-1, 1000)}} {
			if squaresOf(m, day, plus(level, move[0]), plus(slope, move[1])).Cmp(least) <= 0 {
				t.Errorf("the line of %v: got %v, and another one is as near", m, l)
			}
		}
		for _, on := range ints(0, api.MaxDay, day, m[len(m)-1].Day, g.IntN(api.MaxDay+1)) {
			v, e := quality.Predicted(s, period, on)
			want(t, "Predicted", list(s, period, on, v, e), list(s, period, on, ratioOf(valueOn(l, on)), api.OK))
		}
	}
	if lines < 700 {
		t.Errorf("too few lines: %v", lines)
	}
}

// TestGreatestLines checks that no computation of lines of the greatest days and indices is bounded on the way.
func TestGreatestLines(t *testing.T) {
	for i, indexOf := range []func(k int) int{
		func(k int) int { return 100000 },
		func(k int) int { return 100000 * (k % 2) },
		func(k int) int { return 100000 * (k / 16) },
		func(k int) int { return 100000 - 100000*(k/16) },
		func(k int) int { return 99999 + k%2 },
	} {
		for j, dayOf := range []func(k int) int{
			func(k int) int { return 3225 * k },
			func(k int) int { return 100000 - 31 + k },
			func(k int) int { return k + (100000-31)*min(k, 1) }, // all but one at the end
			func(k int) int { return k + (100000-31)*(k/31) },    // all but one at the beginning
			func(k int) int { return k + (100000-31)*(k/16) },
		} {
			s := section("great", nil)
			for k := range 32 {
				s.Measured = append(s.Measured, measurement(dayOf(k), indexOf(k)))
			}
			day, level, slope := leastLine(s.Measured)
			wanted := quality.Line{Day: day, Level: ratioOf(level), Slope: ratioOf(slope)}
			l, e := quality.Fitted(s, 0)
			want(t, "Fitted", list(i, j, l, e), list(i, j, wanted, api.OK))
			for _, on := range ints(0, 50000, 100000) {
				v, e := quality.Predicted(s, 0, on)
				want(t, "Predicted", list(i, j, on, v, e), list(i, j, on, ratioOf(valueOn(l, on)), api.OK))
			}
			for _, limit := range ints(0, 99999, 100000) {
				wantReached(t, s, 0, limit)
			}
		}
	}
}

// firstDay returns the first day from a day on on which something is so, up to api.MaxDay, and whether there is one.
func firstDay(from int, is func(day int) bool) (int, bool) {
	for day := from; day <= api.MaxDay; day++ {
		if is(day) {
			return day, true
		}
	}
	return 0, false
}

// wantReached checks the day on which the line of a period reaches a limit against its values on all days.
func wantReached(t *testing.T, s quality.Section, period, limit int) bool {
	t.Helper()
	m := periodOf(s, period)
	l, e := quality.Fitted(s, period)
	want(t, "the error of Fitted", list(e), list(api.OK))
	wanted, isAny := firstDay(m[len(m)-1].Day, func(day int) bool { return isAtLeast(l, day, limit) })
	day, e := quality.Reached(s, period, limit)
	if !isAny {
		want(t, "Reached", list(s, period, limit, day, e), list(s, period, limit, 0, api.ErrNone))
		return false
	}
	want(t, "Reached", list(s, period, limit, day, e), list(s, period, limit, wanted, api.OK))
	return day > m[len(m)-1].Day
}

// TestReached checks examples 2 and 3, lines that fall, and the last day.
func TestReached(t *testing.T) {
	level, falling := only(5, 7, 6, 7), only(5, 9, 6, 8)
	for i, x := range []struct {
		s             quality.Section
		period, limit int
		day           int
		e             api.Errno
	}{
		{north(), 0, 160, 30, api.OK}, {north(), 0, 161, 31, api.OK}, {north(), 0, 159, 30, api.OK}, {north(), 0, 140, 20, api.OK}, {north(), 0, 141, 21, api.OK}, {north(), 0, 0, 20, api.OK},
		{north(), 1, 90, 71, api.OK}, {north(), 1, 74, 50, api.OK}, {north(), 1, 75, 51, api.OK},
		{level, 0, 7, 6, api.OK}, {level, 0, 8, 0, api.ErrNone}, {level, 0, 6, 6, api.OK},
		{falling, 0, 8, 6, api.OK}, {falling, 0, 9, 0, api.ErrNone}, {falling, 0, 0, 6, api.OK},
		{only(0, 0, 50000, 1), 0, 2, 100000, api.OK}, {only(1, 0, 50001, 1), 0, 2, 0, api.ErrNone}, {only(0, 0, 50000, 1), 0, 3, 0, api.ErrNone},
		{only(0, 0, 1, 1), 0, 100000, 100000, api.OK}, {only(1, 0, 2, 1), 0, 100000, 0, api.ErrNone}, {only(1, 0, 2, 1), 0, 99999, 100000, api.OK},
		{only(99999, 0, 100000, 1), 0, 1, 100000, api.OK}, {only(99999, 0, 100000, 1), 0, 2, 0, api.ErrNone},
		{only(99998, 0, 99999, 1), 0, 2, 100000, api.OK}, {only(99998, 0, 99999, 1), 0, 3, 0, api.ErrNone},
	} {
		day, e := quality.Reached(x.s, x.period, x.limit)
		want(t, "Reached", list(i, day, e), list(i, x.day, x.e))
	}
}

// TestReachedByDefinition checks days on which lines reach limits against all days.
func TestReachedByDefinition(t *testing.T) {
	g := source(13)
	later, never := 0, 0
	for i := range 600 {
		s := someSection(g, 10, 3, between(g, 20, 400), 1<<between(g, 3, 16))
		period, isAny := longPeriod(g, s)
		if !isAny {
			continue
		}
		// Most periods are short before the last day, so that there are few days.
		if last := s.Measured[len(s.Measured)-1].Day; i%20 > 0 {
			by := api.MaxDay - between(g, 0, 500) - last
			for k := range s.Measured {
				s.Measured[k].Day += by
			}
			for k := range s.Acts {
				s.Acts[k].Day += by
			}
			if quality.CheckSection(s) != api.OK {
				continue
			}
		}
		m := periodOf(s, period)
		limit := min(m[len(m)-1].Index+g.IntN(m[len(m)-1].Index+9), 100000)
		if wantReached(t, s, period, limit) {
			later++
		} else {
			never++
		}
	}
	if later < 100 || never < 100 {
		t.Errorf("too few days: %v are later, %v are not", later, never)
	}
}

// TestLeft checks example 3, and the values of both lines on the day of each intervention.
func TestLeft(t *testing.T) {
	l, e := quality.Left(north(), 0)
	want(t, "Left", list(l, e), list([2]api.Ratio{ratio(150, 1), ratio(223, 4)}, api.OK))
	s := section("three", measured(0, 0, 2, 1, 10, 5, 12, 5, 20, 9, 22, 0), acts(10, 20)...)
	l, e = quality.Left(s, 0)
	want(t, "Left on a day with a measurement", list(l, e), list([2]api.Ratio{ratio(5, 1), ratio(5, 1)}, api.OK))
	l, e = quality.Left(s, 1)
	want(t, "Left of the second intervention", list(l, e), list([2]api.Ratio{ratio(5, 1), ratio(9, 1)}, api.OK))

	g := source(14)
	right := map[api.Errno]int{}
	for range 1500 {
		s := someSection(g, 32, 4, between(g, 5, 3000), 1<<between(g, 2, 16))
		for k, a := range s.Acts {
			l, e := quality.Left(s, k)
			right[e]++
			before, e1 := quality.Predicted(s, k, a.Day)
			after, e2 := quality.Predicted(s, k+1, a.Day)
			if e1 != api.OK || e2 != api.OK {
				want(t, "Left", list(s, k, l, e), list(s, k, [2]api.Ratio{}, api.ErrShort))
				continue
			}
			want(t, "Left", list(s, k, l, e), list(s, k, [2]api.Ratio{before, after}, api.OK))
		}
	}
	if right[api.OK] < 500 || right[api.ErrShort] < 500 {
		t.Errorf("too few interventions: %v", right)
	}
}
