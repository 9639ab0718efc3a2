package quality

import (
	"cmp"
	"slices"

	"versine/api"
	"versine/base"
)

// signs is how the error is added to two indices.
var signs = [4][2]int{{-1, -1}, {-1, 1}, {1, -1}, {1, 1}}

// plus returns a measurement with an index that is greater by a number.
func (m Measurement) plus(n int) Measurement { return Measurement{m.Day, m.Index + n} }

// through returns the line through two measurements, of which the second one is later.
func through(a, b Measurement) straight {
	days := b.Day - a.Day
	return straight{a.Day, a.Index * days, b.Index - a.Index, days}
}

// extremesOf returns the lines through two of the measurements, each of them plus or less the
// error, that fit. All lines that fit lie between these, on each day.
func extremesOf(measured []Measurement, wrong int) []straight {
	var lines []straight
	for i, a := range measured {
		for _, b := range measured[i+1:] {
			for _, sign := range signs {
				l := through(a.plus(sign[0]*wrong), b.plus(sign[1]*wrong))
				if l.fits(measured, wrong) {
					lines = append(lines, l)
				}
			}
		}
	}
	return lines
}

// extremes returns the extreme lines that fit a period, which a section without an error
// has, or why there are none.
func (s Section) extremes(period, wrong int) ([]straight, api.Errno) {
	measured := s.period(period)
	lines := extremesOf(measured, wrong)
	e := base.FirstError(
		base.ErrorIf(len(measured) < 2, api.ErrShort),
		base.ErrorIf(len(lines) == 0, api.ErrInfeasible),
	)
	return lines, e
}

// compared compares two ratios in lowest terms.
func compared(a, b api.Ratio) int {
	if a == b {
		return 0
	}
	return cmp.Compare(a.Num*b.Den, b.Num*a.Den)
}

// ends is both ends of a range.
type ends [2]api.Ratio

// with returns the ends of a range that has a value, too.
func (r ends) with(value api.Ratio) ends {
	if r == (ends{}) { // it has none yet: 0 by 0 is no value
		return ends{value, value}
	}
	if compared(value, r[0]) < 0 {
		r[0] = value
	}
	if compared(value, r[1]) > 0 {
		r[1] = value
	}
	return r
}

// Range returns the least and the greatest value of all lines that fit, on a day.
func Range(s Section, period, wrong, day int) ([2]api.Ratio, api.Errno) {
	if e := base.FirstError(checkPeriod(s, period), checkIndex(wrong), checkDay(day)); e != api.OK {
		return [2]api.Ratio{}, e
	}
	lines, e := s.extremes(period, wrong)
	if e != api.OK {
		return [2]api.Ratio{}, e
	}
	var r ends
	for _, l := range lines {
		r = r.with(l.value(day))
	}
	return r, api.OK
}

// extremeDays returns the extreme lines that fit a period, and when each of them reaches a
// limit from the period's last day on, or the first error.
func extremeDays(s Section, period, wrong, limit int) (lines []straight, days []int, e api.Errno) {
	if e := base.FirstError(checkPeriod(s, period), checkIndex(wrong), checkIndex(limit)); e != api.OK {
		return nil, nil, e
	}
	if lines, e = s.extremes(period, wrong); e != api.OK {
		return nil, nil, e
	}
	last := lastDay(s.period(period))
	return lines, base.Mapped(lines, func(l straight) int { return l.reached(last, limit) }), api.OK
}

// Earliest returns the first day on which a line that fits reaches a limit.
func Earliest(s Section, period, wrong, limit int) (int, api.Errno) {
	_, days, e := extremeDays(s, period, wrong, limit)
	if e != api.OK {
		return 0, e
	}
	return dayOf(slices.Min(days))
}

// Latest returns the first day on which all lines that fit reach a limit.
func Latest(s Section, period, wrong, limit int) (int, api.Errno) {
	lines, days, e := extremeDays(s, period, wrong, limit)
	if e != api.OK {
		return 0, e
	}
	day := slices.Max(days)
	// A line that is below the limit on this day never has it, or had it before and falls:
	// on no later day all lines have it.
	if slices.ContainsFunc(lines, func(l straight) bool { return !l.has(day, limit) }) {
		return 0, api.ErrNone
	}
	return dayOf(day)
}
