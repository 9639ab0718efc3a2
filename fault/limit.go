package fault

import (
	"versine/api"
	"versine/base"
	"versine/sample"
)

// CheckLimits returns the first error of limits, or OK.
func CheckLimits(l Limits) api.Errno {
	e := base.FirstError(
		checkBand(l.Band),
		base.ErrorIf(len(l.Rows) == 0, api.ErrEmpty),
		base.ErrorIf(len(l.Rows) > MaxRows, api.ErrMany),
	)
	if e != api.OK {
		return e
	}
	for i, r := range l.Rows {
		e := base.FirstError(
			checkSpeed(r.Speed),
			checkSize(r.Most),
			base.ErrorIf(i > 0 && !l.Rows[i-1].isBefore(r), api.ErrOrder),
		)
		if e != api.OK {
			return e
		}
	}
	return api.OK
}

// isBefore reports whether another row may be the next one.
func (r Row) isBefore(next Row) bool { return next.Speed < r.Speed && next.Most > r.Most }

// rowFor returns the row for a speed, and whether there is one.
func (l Limits) rowFor(speed int) (Row, bool) {
	row, isAny := Row{}, false
search:
	for _, r := range l.Rows {
		switch {
		case r.Speed < speed:
			break search // and so is that of all rows behind it
		default:
			row, isAny = r, true
		}
	}
	return row, isAny
}

// Limit returns the greatest value for a speed.
func Limit(l Limits, speed int) (int, api.Errno) {
	if e := base.FirstError(CheckLimits(l), checkSpeed(speed)); e != api.OK {
		return 0, e
	}
	row, isAny := l.rowFor(speed)
	return row.Most, base.ErrorIf(!isAny, api.ErrNone)
}

// size returns the absolute value.
func size(n int) int { return max(n, -n) }

// permitted returns the speed that is permitted for an absolute value.
func (l Limits) permitted(size int) int {
	for _, r := range l.Rows {
		if size <= r.Most {
			return r.Speed
		}
	}
	return 0
}

// Permitted returns the speed that is permitted for a value.
func Permitted(l Limits, value int) (int, api.Errno) {
	if e := base.FirstError(CheckLimits(l), checkValue(value)); e != api.OK {
		return 0, e
	}
	return l.permitted(size(value)), api.OK
}

// Speeds returns the safe speeds at all places of a run.
func Speeds(l Limits, r sample.Run) ([]int, api.Errno) {
	if e := base.FirstError(CheckLimits(l), sample.CheckRun(r)); e != api.OK {
		return nil, e
	}
	speeds := make([]int, len(r.Samples))
	for place, value := range known(r) {
		speeds[place-r.First] = l.permitted(size(value) + l.Band)
	}
	return speeds, api.OK
}
