package quality

import (
	"slices"

	"versine/api"
	"versine/base"
	"versine/sample"
)

const (
	// maxTerm is the greatest integer of a ratio of a line.
	maxTerm = 1000000
	// never is after all days: when a line reaches a limit that it does not reach.
	never = api.MaxDay + 1
)

// straight is a line with one denominator, which is above 0, for its value on a day and for
// what it grows each day. The limits of days, indices and measurements keep all numbers of
// its computations below 4e18, so that none overflows.
type straight struct {
	day  int
	num  int
	rise int
	den  int
}

// at returns the numerator of the value on a day.
func (l straight) at(day int) int { return l.num + l.rise*(day-l.day) }

// value returns the value on a day.
func (l straight) value(day int) api.Ratio { return base.Ratio(l.at(day), l.den) }

// has reports whether the value on a day is at least a limit.
func (l straight) has(day, limit int) bool { return l.at(day) >= limit*l.den }

// reached returns the first day from a day on on which the value is at least a limit, or
// never.
func (l straight) reached(from, limit int) int {
	switch {
	case l.has(from, limit):
		return from
	case l.rise <= 0:
		return never
	}
	missing := limit*l.den - l.at(from)
	return min(from+base.RoundedUp(missing, l.rise), never)
}

// fits reports whether a line differs from measurements by at most an error.
func (l straight) fits(measured []Measurement, wrong int) bool {
	fits, most := true, wrong*l.den
search:
	for _, m := range measured {
		switch off := l.at(m.Day) - m.Index*l.den; {
		case off < -most, off > most:
			fits = false
			break search // one that it misses is enough
		}
	}
	return fits
}

// leastSquares returns the least squares line of at least two measurements.
func leastSquares(measured []Measurement) straight {
	n, first := len(measured), measured[0].Day
	var x, y, xx, xy int // the sums of days from the first one on, of indices, and of products
	for _, m := range measured {
		day := m.Day - first
		x += day
		y += m.Index
		xx += day * day
		xy += day * m.Index
	}
	return straight{first, y*xx - x*xy, n*xy - x*y, n*xx - x*x}
}

// line returns the line of a period that a section without an error has.
func (s Section) line(period int) (straight, api.Errno) {
	measured := s.period(period)
	if len(measured) < 2 {
		return straight{}, api.ErrShort
	}
	return leastSquares(measured), api.OK
}

// Fitted returns the least squares line of a period.
func Fitted(s Section, period int) (Line, api.Errno) {
	if e := checkPeriod(s, period); e != api.OK {
		return Line{}, e
	}
	l, e := s.line(period)
	if e != api.OK {
		return Line{}, e
	}
	return Line{l.day, base.Ratio(l.num, l.den), base.Ratio(l.rise, l.den)}, api.OK
}

// predicted returns the value of the line of a period, which a section without an error
// has, on a day.
func (s Section) predicted(period, day int) (api.Ratio, api.Errno) {
	l, e := s.line(period)
	if e != api.OK {
		return api.Ratio{}, e
	}
	return l.value(day), api.OK
}

// Predicted returns the value of the line of a period on a day.
func Predicted(s Section, period, day int) (api.Ratio, api.Errno) {
	if e := base.FirstError(checkPeriod(s, period), checkDay(day)); e != api.OK {
		return api.Ratio{}, e
	}
	return s.predicted(period, day)
}

// reached returns the day on which the line of a period, which a section without an error
// has, reaches a limit, or never.
func (s Section) reached(period, limit int) (int, api.Errno) {
	l, e := s.line(period)
	if e != api.OK {
		return 0, e
	}
	return l.reached(lastDay(s.period(period)), limit), api.OK
}

// dayOf returns a day, or ErrNone for never.
func dayOf(day int) (int, api.Errno) {
	if day == never {
		return 0, api.ErrNone
	}
	return day, api.OK
}

// Reached returns the day on which the line of a period reaches a limit.
func Reached(s Section, period, limit int) (int, api.Errno) {
	if e := base.FirstError(checkPeriod(s, period), checkIndex(limit)); e != api.OK {
		return 0, e
	}
	day, e := s.reached(period, limit)
	if e != api.OK {
		return 0, e
	}
	return dayOf(day)
}

// Left returns the values before and after an intervention.
func Left(s Section, act int) ([2]api.Ratio, api.Errno) {
	if e := base.FirstError(CheckSection(s), base.ErrorIf(act < 0 || act >= len(s.Acts), api.ErrUnknown)); e != api.OK {
		return [2]api.Ratio{}, e
	}
	day := s.Acts[act].Day
	before, e := s.predicted(act, day)
	if e != api.OK {
		return [2]api.Ratio{}, e
	}
	after, e := s.predicted(act+1, day)
	if e != api.OK {
		return [2]api.Ratio{}, e
	}
	return [2]api.Ratio{before, after}, api.OK
}

// checkLine returns the first error of a line, or OK.
func checkLine(l Line) api.Errno {
	terms := [4]int{l.Level.Num, l.Level.Den, l.Slope.Num, l.Slope.Den}
	isLarge := slices.ContainsFunc(terms[:], func(n int) bool { return max(n, -n) > maxTerm })
	return base.FirstError(
		checkDay(l.Day),
		sample.CheckRatio(l.Level), sample.CheckRatio(l.Slope),
		base.ErrorIf(isLarge, api.ErrLarge),
	)
}

// straight returns a line without an error with one denominator.
func (l Line) straight() straight {
	return straight{l.Day, l.Level.Num * l.Slope.Den, l.Slope.Num * l.Level.Den, l.Level.Den * l.Slope.Den}
}

// Fits reports whether a line is within an error of all measurements of a period.
func Fits(s Section, period, wrong int, l Line) (bool, api.Errno) {
	if e := base.FirstError(checkPeriod(s, period), checkIndex(wrong), checkLine(l)); e != api.OK {
		return false, e
	}
	return l.straight().fits(s.period(period), wrong), api.OK
}
