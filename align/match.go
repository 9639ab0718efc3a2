package align

import (
	"iter"

	"versine/api"
	"versine/base"
	"versine/sample"
)

// differences visits the places that two strips have in common at a shift, ascending,
// with the absolute differences of their integers.
func differences(a, b strip, shift int) iter.Seq2[int, int] {
	return func(yield func(place, difference int) bool) {
		for place, integer := range a.all() {
			other, isKnown := b.at(place - shift)
			if isKnown && !yield(place, max(integer-other, other-integer)) {
				return
			}
		}
	}
}

// difference returns the difference of two strips at a shift, and whether they have
// enough places in common there.
func difference(a, b strip, shift, least int) (api.Ratio, bool) {
	sum, n := 0, 0
	for _, d := range differences(a, b, shift) {
		sum += d
		n++
	}
	if n < least {
		return api.Ratio{}, false
	}
	return base.Ratio(sum, n), true
}

// checkLeast returns ErrRange for a number of places that is not in its range.
func checkLeast(least int) api.Errno { return base.CheckBetween(least, 1, api.MaxSamples) }

// Difference returns the mean difference of two runs at a shift.
func Difference(a, b sample.Run, shift, least int) (api.Ratio, api.Errno) {
	e := base.FirstError(
		sample.CheckRun(a), sample.CheckRun(b),
		base.CheckBetween(shift, -MaxShift, MaxShift), checkLeast(least),
	)
	if e != api.OK {
		return api.Ratio{}, e
	}
	x, isEnough := difference(stripOf(a), stripOf(b), shift, least)
	return x, base.ErrorIf(!isEnough, api.ErrNone)
}

// Matched returns the shift at which two runs differ least.
func Matched(a, b sample.Run, most, least int) (int, api.Ratio, api.Errno) {
	e := base.FirstError(
		sample.CheckRun(a), sample.CheckRun(b),
		base.CheckBetween(most, 0, MaxShift), checkLeast(least),
	)
	if e != api.OK {
		return 0, api.Ratio{}, e
	}
	shift, x, isAny := matched(stripOf(a), stripOf(b), most, least)
	return shift, x, base.ErrorIf(!isAny, api.ErrNone)
}

// matched returns the shift at which two strips are matched, their difference there,
// and whether there is one. Of the shifts with one difference the first one stays.
func matched(a, b strip, most, least int) (int, api.Ratio, bool) {
	best, match, isAny := 0, api.Ratio{}, false
	for distance := range most + 1 {
		for _, shift := range [2]int{-distance, distance} {
			x, isEnough := difference(a, b, shift, least)
			if isEnough && (!isAny || isLess(x, match)) {
				best, match, isAny = shift, x, true
			}
		}
	}
	return best, match, isAny
}

// isLess reports whether a ratio is less than another one.
func isLess(a, b api.Ratio) bool { return a.Num*b.Den < b.Num*a.Den }

// Apart returns the places at which two runs differ by more than a limit.
func Apart(a, b sample.Run, limit float32) ([]api.Span, api.Errno) {
	e := base.FirstError(
		sample.CheckRun(a), sample.CheckRun(b),
		sample.CheckSample(limit), base.ErrorIf(limit < 0, api.ErrRange),
	)
	if e != api.OK {
		return nil, e
	}
	var apart []api.Span
	for place, d := range differences(stripOf(a), stripOf(b), 0) {
		if d > base.IntegerOf(limit) {
			apart = base.Extended(apart, place)
		}
	}
	return apart, api.OK
}
