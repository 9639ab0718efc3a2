package quality_test

import (
	"math/big"
	"math/rand/v2"
	"slices"
	"testing"

	"versine/api"
	"versine/quality"
)

// TestPartsAddUp checks that moments of parts add up to those of the whole.
func TestPartsAddUp(t *testing.T) {
	g := source(40)
	for range 1000 {
		r := someRun(g, 80, 1<<g.IntN(15))
		end := r.First + len(r.Samples)
		whole, e := quality.MomentsOf(r, span(r.First, end))
		want(t, "the error of the whole", list(e), list(api.OK))
		var sum quality.Moments
		for from := r.First; from < end; {
			to := between(g, from+1, min(from+20, end))
			part, e := quality.MomentsOf(r, span(from, to))
			want(t, "the error of a part", list(e), list(api.OK))
			other, _ := quality.Added(part, sum)
			sum, e = quality.Added(sum, part)
			want(t, "moments that are added", list(sum, e), list(other, api.OK))
			from = to
		}
		want(t, "the sum of the parts", list(r, sum), list(r, whole))
	}
}

// variance returns the variance of integers of samples.
func variance(t *testing.T, integers []int) api.Ratio {
	t.Helper()
	r := run(5, integers...)
	m, e := quality.MomentsOf(r, span(5, 5+len(integers)))
	want(t, "the error of MomentsOf", list(e), list(api.OK))
	v, e := quality.Variance(m)
	want(t, "the error of Variance", list(e), list(api.OK))
	return v
}

// TestVariancesStay checks that variances do not depend on the order, the sign, or a number that is added, and are 0 just for equal integers.
func TestVariancesStay(t *testing.T) {
	g := source(41)
	zero := 0
	for range 1500 {
		bound := 1 << g.IntN(14)
		l := make([]int, between(g, 1, 1<<g.IntN(7)))
		for i := range l {
			l[i] = between(g, -bound/2, bound/2)
		}
		v := variance(t, l)
		want(t, "a variance that is 0", list(l, v == ratio(0, 1)), list(l, !slices.ContainsFunc(l, func(n int) bool { return n != l[0] })))
		if v.Num < 0 || v.Den < 1 {
			t.Errorf("the variance of %v: got %v", l, v)
		}
		if v.Num == 0 {
			zero++
		}
		g.Shuffle(len(l), func(a, b int) { l[a], l[b] = l[b], l[a] })
		want(t, "the variance in another order", list(l, variance(t, l)), list(l, v))
		add := between(g, -bound, bound)
		for i := range l {
			l[i] += add
		}
		want(t, "the variance with another number added", list(l, variance(t, l)), list(l, v))
		for i := range l {
			l[i] = -l[i]
		}
		want(t, "the variance with the other sign", list(l, variance(t, l)), list(l, v))
	}
	if zero < 100 {
		t.Errorf("too few integers are equal: %v", zero)
	}
}

// TestExactMeasurements checks that a line of exact measurements goes through all of them.
func TestExactMeasurements(t *testing.T) {
	g := source(42)
	for range 800 {
		rise, by := between(g, -50, 50), between(g, 1, 9)
		s := section("exact", nil)
		at := g.IntN(90000)
		for k := range between(g, 2, 32) { // on days on which the line has an integer
			s.Measured = append(s.Measured, measurement(at+by*k*7, 50000+rise*k*7))
		}
		l, e := quality.Fitted(s, 0)
		want(t, "Fitted", list(s, l, e), list(s, quality.Line{Day: at, Level: ratio(50000, 1), Slope: ratioOf(fraction(rise, by))}, api.OK))
		for _, m := range s.Measured {
			v, e := quality.Predicted(s, 0, m.Day)
			want(t, "Predicted", list(s, m, v, e), list(s, m, ratio(m.Index, 1), api.OK))
		}
		is, e := quality.Fits(s, 0, 0, l)
		want(t, "Fits without an error", list(s, is, e), list(s, true, api.OK))
		v, e1 := quality.Predicted(s, 0, 77)
		r, e2 := quality.Range(s, 0, 0, 77)
		want(t, "the range without an error", list(s, r, e1, e2), list(s, [2]api.Ratio{v, v}, api.OK, api.OK))
	}
}

// TestDifferencesOfLines checks that the differences of values and indices have the sum 0.
func TestDifferencesOfLines(t *testing.T) {
	g := source(43)
	lines := 0
	for range 1500 {
		s := someSection(g, 32, 4, 1<<between(g, 2, 16), 1<<between(g, 1, 16))
		period, isAny := longPeriod(g, s)
		if !isAny {
			continue
		}
		lines++
		sum := new(big.Rat)
		for _, m := range periodOf(s, period) {
			v, e := quality.Predicted(s, period, m.Day)
			want(t, "the error of Predicted", list(e), list(api.OK))
			sum = plus(sum, minus(rat(v), whole(m.Index)))
		}
		if sum.Sign() != 0 {
			t.Errorf("the differences of %v in the period %v: got %v", s, period, sum)
		}
	}
	if lines < 800 {
		t.Errorf("too few lines: %v", lines)
	}
}

// someFit returns a section with a period, an error, and a line that fits.
func someFit(g *rand.Rand) (s quality.Section, period, wrong int, l quality.Line) {
	for {
		s = someSection(g, 1<<between(g, 1, 5), 3, 1<<between(g, 3, 16), 1<<between(g, 1, 16))
		k, isAny := longPeriod(g, s)
		if !isAny {
			continue
		}
		m := periodOf(s, k)
		wrong = wrongFor(g, m)
		for range 8 {
			if l = someLine(g, m, wrong); isPermitted(l) && fitsBy(l, m, wrong) {
				return s, k, wrong, l
			}
		}
	}
}

// isWithin reports whether a value is in a range.
func isWithin(x *big.Rat, r [2]api.Ratio) bool {
	return rat(r[0]).Cmp(x) <= 0 && x.Cmp(rat(r[1])) <= 0
}

// TestLinesInRanges checks that a line that fits is within each range.
func TestLinesInRanges(t *testing.T) {
	g := source(44)
	for range 800 {
		s, period, wrong, l := someFit(g)
		is, e := quality.Fits(s, period, wrong, l)
		want(t, "Fits", list(s, period, wrong, l, is, e), list(s, period, wrong, l, true, api.OK))
		for _, day := range ints(0, api.MaxDay, g.IntN(api.MaxDay+1), periodOf(s, period)[0].Day) {
			r, e := quality.Range(s, period, wrong, day)
			if e != api.OK || !isWithin(valueOn(l, day), r) {
				t.Errorf("the range of %v, %v by %v on %v: got %v, %v, without %v", s, period, wrong, day, r, e, l)
			}
		}
	}
}

// linesThrough returns the lines through two of the measurements, each of them plus or less the error.
func linesThrough(m []quality.Measurement, wrong int) []quality.Line {
	var l []quality.Line
	for i, a := range m {
		for _, b := range m[i+1:] {
			for _, off := range [][2]int{{wrong, wrong}, {wrong, -wrong}, {-wrong, wrong}, {-wrong, -wrong}} {
				slope := fraction(b.Index+off[1]-a.Index-off[0], b.Day-a.Day)
				l = append(l, quality.Line{Day: a.Day, Level: ratio(a.Index+off[0], 1), Slope: ratioOf(slope)})
			}
		}
	}
	return l
}

// TestEndsOfRanges checks that both ends of a range are values of lines that fit, through two measured indices plus or less the error.
func TestEndsOfRanges(t *testing.T) {
	g := source(45)
	for range 300 {
		s, period, wrong, _ := someFit(g)
		lines := linesThrough(periodOf(s, period), wrong)
		day := g.IntN(api.MaxDay + 1)
		r, e := quality.Range(s, period, wrong, day)
		want(t, "the error of Range", list(e), list(api.OK))
		for _, end := range r {
			isValue := slices.ContainsFunc(lines, func(l quality.Line) bool {
				if !isPermitted(l) || valueOn(l, day).Cmp(rat(end)) != 0 {
					return false
				}
				is, e := quality.Fits(s, period, wrong, l)
				return is && e == api.OK
			})
			if !isValue {
				t.Errorf("the range of %v, %v by %v on %v: got %v, no line that fits has the value %v", s, period, wrong, day, r, end)
			}
		}
	}
}

// TestGreaterErrors checks that a greater error never makes a range lesser, nor the earliest day later, nor the latest one earlier.
func TestGreaterErrors(t *testing.T) {
	g := source(46)
	later := 0
	for range 800 {
		s, period, wrong, _ := someFit(g)
		more := between(g, wrong, min(2*wrong+3, 100000))
		day := g.IntN(api.MaxDay + 1)
		r, e := quality.Range(s, period, wrong, day)
		q, f := quality.Range(s, period, more, day)
		if e != api.OK || f != api.OK || !isWithin(rat(r[0]), q) || !isWithin(rat(r[1]), q) {
			t.Errorf("the ranges of %v, %v by %v and %v on %v: got %v, %v and %v, %v", s, period, wrong, more, day, r, e, q, f)
		}
		limit := min(s.Measured[len(s.Measured)-1].Index+g.IntN(2*wrong+20), 100000)
		first, second := earliest(t, s, period, wrong, limit), earliest(t, s, period, more, limit)
		if second > first {
			t.Errorf("the earliest days of %v, %v for %v by %v and %v: got %v and %v", s, period, limit, wrong, more, first, second)
		}
		if second < first {
			later++
		}
		if a, b := latest(t, s, period, wrong, limit), latest(t, s, period, more, limit); a > b {
			t.Errorf("the latest days of %v, %v for %v by %v and %v: got %v and %v", s, period, limit, wrong, more, a, b)
		}
	}
	if later < 100 {
		t.Errorf("too few days are earlier: %v", later)
	}
}

// earliest and latest return these days, or the day after all days if there is none.
func earliest(t *testing.T, s quality.Section, period, wrong, limit int) int {
	t.Helper()
	return dayOrNone(t, func() (int, api.Errno) { return quality.Earliest(s, period, wrong, limit) })
}

func latest(t *testing.T, s quality.Section, period, wrong, limit int) int {
	t.Helper()
	return dayOrNone(t, func() (int, api.Errno) { return quality.Latest(s, period, wrong, limit) })
}

func dayOrNone(t *testing.T, f func() (int, api.Errno)) int {
	t.Helper()
	day, e := f()
	if e == api.OK {
		return day
	}
	want(t, "a day and its error", list(day, e), list(0, api.ErrNone))
	return api.MaxDay + 1
}

// dayFor returns the first day from a day on on which a line has at least a limit, or the day after all days.
func dayFor(l quality.Line, from, limit int) int {
	if isAtLeast(l, from, limit) {
		return from
	}
	if l.Slope.Num <= 0 {
		return api.MaxDay + 1
	}
	days := by(minus(whole(limit), valueOn(l, from)), rat(l.Slope)) // rounded up
	passed := new(big.Int).Div(new(big.Int).Neg(days.Num()), days.Denom())
	if !passed.IsInt64() || passed.Int64() < -api.MaxDay {
		return api.MaxDay + 1
	}
	return min(from-int(passed.Int64()), api.MaxDay+1)
}

// TestDaysOfLines checks that between the earliest and the latest day lies the day of each line that fits, and that of the least squares line if it fits.
func TestDaysOfLines(t *testing.T) {
	g := source(47)
	between, least := 0, 0
	for range 1500 {
		s, period, wrong, l := someFit(g)
		last := periodOf(s, period)[len(periodOf(s, period))-1]
		limit := min(last.Index+g.IntN(2*wrong+last.Index+2), 100000)
		first, end := earliest(t, s, period, wrong, limit), latest(t, s, period, wrong, limit)
		if day := dayFor(l, last.Day, limit); day < first || day > end {
			t.Errorf("the days of %v, %v for %v by %v: got %v to %v, without %v of %v", s, period, limit, wrong, first, end, day, l)
		}
		if first < end {
			between++
		}
		fitted, e := quality.Fitted(s, period)
		want(t, "the error of Fitted", list(e), list(api.OK))
		if !fitsBy(fitted, periodOf(s, period), wrong) {
			continue
		}
		least++
		day := dayOrNone(t, func() (int, api.Errno) { return quality.Reached(s, period, limit) })
		if day < first || day > end {
			t.Errorf("the days of %v, %v for %v by %v: got %v to %v, without %v of its line", s, period, limit, wrong, first, end, day)
		}
	}
	if between < 500 || least < 500 {
		t.Errorf("too few days: %v are different, %v lines fit", between, least)
	}
}

// TestFittedLinesFit checks that an error that lets any line fit lets extreme lines fit, and a lesser one none.
func TestFittedLinesFit(t *testing.T) {
	g := source(48)
	for range 200 {
		s := someSection(g, 8, 0, 1<<between(g, 4, 12), 1<<between(g, 2, 10))
		if len(s.Measured) < 2 {
			continue
		}
		wrong := 0
		for ; ; wrong++ {
			if _, e := quality.Range(s, 0, wrong, 5); e == api.OK {
				break
			}
			_, isAny := rangeOf(s.Measured, wrong, 5)
			want(t, "a line that fits by too small an error", list(s, wrong, isAny), list(s, wrong, false))
		}
		for _, more := range ints(wrong, wrong+1, 2*wrong, 100000) {
			_, e := quality.Range(s, 0, more, 5)
			want(t, "Range by a greater error", list(s, more, e), list(s, more, api.OK))
		}
	}
}

// TestTextsComeBack checks that sections are parsed as they were printed.
func TestTextsComeBack(t *testing.T) {
	g := source(49)
	for range 1500 {
		s := someSection(g, 32, 16, 1<<between(g, 3, 16), 1<<between(g, 1, 16))
		for i := range s.Acts {
			s.Acts[i].Kind = nameOf(g.IntN(100))
		}
		text, e := quality.Print(s)
		back, line, f := quality.Parse(text)
		want(t, "Parse of Print", list(e, back, line, f), list(api.OK, s, 0, api.OK))
		again, e := quality.Print(back)
		want(t, "Print again", list(again, e), list(text, api.OK))
	}
}
