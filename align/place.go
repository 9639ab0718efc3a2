package align

import (
	"versine/api"
	"versine/base"
)

// slack returns by how much the odometer may be wrong over a distance of counts.
func (s Slip) slack(distance int) int { return (distance*s.Rate + 999) / 1000 }

// permitted returns the places at which a count is by a pair.
func (f fix) permitted(s Slip, count int) api.Interval {
	d := count - f.count
	e := s.Blur + s.slack(max(d, -d))
	return api.Interval{Low: f.place + d - e, High: f.place + d + e}
}

// checkAny returns ErrEmpty for an alignment without pairs.
func checkAny(l []Pair) api.Errno { return base.ErrorIf(len(l) == 0, api.ErrEmpty) }

// Within returns the interval in which the place of a count is.
func Within(r Ride, l []Pair, s Slip, count int) (api.Interval, api.Errno) {
	if e := base.FirstError(CheckPairs(r, l), checkSlip(s), checkPlace(count), checkAny(l)); e != api.OK {
		return api.Interval{}, e
	}
	places, isAny := within(r.fixes(l), s, count)
	return places, base.ErrorIf(!isAny, api.ErrConflict)
}

// within returns the places that all of at least one pairs permit, and whether there
// is any.
func within(fixes []fix, s Slip, count int) (api.Interval, bool) {
	places, isAny := fixes[0].permitted(s, count), true
search:
	for _, f := range fixes[1:] {
		by := f.permitted(s, count)
		switch {
		case by.Low > places.High || by.High < places.Low:
			places, isAny = api.Interval{}, false
			break search
		default:
			places = api.Interval{Low: max(places.Low, by.Low), High: min(places.High, by.High)}
		}
	}
	return places, isAny
}

// conflicts reports whether two pairs conflict.
func (x two) conflicts(s Slip) bool { return x.stretch() > 2*s.Blur+s.slack(x.counts()) }

// Conflicts returns the pairs that contradict each other.
func Conflicts(r Ride, l []Pair, s Slip) ([][2]int, api.Errno) {
	if e := base.FirstError(CheckPairs(r, l), checkSlip(s)); e != api.OK {
		return nil, e
	}
	fixes := r.fixes(l)
	var found [][2]int
	for i, a := range fixes {
		for k := i + 1; k < len(fixes); k++ {
			if (two{a, fixes[k]}).conflicts(s) {
				found = append(found, [2]int{i, k})
			}
		}
	}
	return found, api.OK
}

// nextTo returns what the pairs next to a count say, of at least one: the last one up
// to it, and the first one behind it. Of both the one that is there stands for one
// that is not.
func nextTo(fixes []fix, count int) two {
	next := two{fixes[0], fixes[0]}
	for _, f := range fixes {
		if f.count > count {
			next[1] = f
			break
		}
		next = two{f, f}
	}
	return next
}

// guess returns the guess of a count by at least one pair.
func guess(fixes []fix, count int) int {
	next := nextTo(fixes, count)
	from, to := next[0], next[1]
	passed := count - from.count
	if next == (two{from, from}) {
		return from.place + passed
	}
	return from.place + base.Rounded(passed*(to.place-from.place), next.counts())
}

// Guess returns the place of a count on the line between two pairs.
func Guess(r Ride, l []Pair, count int) (int, api.Errno) {
	if e := base.FirstError(CheckPairs(r, l), checkPlace(count), checkAny(l)); e != api.OK {
		return 0, e
	}
	return guess(r.fixes(l), count), api.OK
}
