package plan

import (
	"slices"

	"versine/api"
	"versine/base"
)

func checkLevel(n int) api.Errno { return base.CheckBetween(n, -MaxLevel, MaxLevel) }

func checkLift(n int) api.Errno { return base.CheckBetween(n, 0, MaxLift) }

// checkLevels returns the first error of levels, or of targets, or OK.
func checkLevels(l []int) api.Errno {
	return base.FirstError(
		base.ErrorIf(len(l) == 0, api.ErrEmpty),
		base.ErrorIf(len(l) > MaxColumns, api.ErrMany),
		base.CheckEach(l, checkLevel),
	)
}

// course is levels and targets, with the rules of their lifts.
type course struct {
	levels  []int
	targets []int
	Rules
}

// check returns the first error of a course, or OK.
func (c course) check() api.Errno {
	return base.FirstError(
		checkLevels(c.levels),
		checkLevels(c.targets),
		base.ErrorIf(len(c.targets) != len(c.levels), api.ErrShape),
		checkLift(c.Most),
		base.CheckBetween(c.Ramp, 1, MaxLift),
	)
}

// checkLifts returns the first error of lifts of a course, or OK.
func (c course) checkLifts(lifts []int) api.Errno {
	return base.FirstError(
		base.ErrorIf(len(lifts) != len(c.levels), api.ErrShape),
		base.CheckEach(lifts, func(n int) api.Errno { return base.CheckBetween(n, 0, c.Most) }),
		base.ErrorIf(c.isSteep(lifts), api.ErrRule),
	)
}

// isSteep reports whether lifts leave the track, come back to it, or differ by more than the
// ramp.
func (c course) isSteep(lifts []int) bool {
	before := 0
	for _, lift := range append(slices.Clone(lifts), 0) {
		if max(lift-before, before-lift) > c.Ramp {
			return true
		}
		before = lift
	}
	return false
}

// cost returns the cost of a lift of a column.
func (c course) cost(column, lift int) int {
	missing := c.targets[column] - c.levels[column] - lift
	return missing*missing + lift
}

// total returns the cost of lifts of all columns.
func (c course) total(lifts []int) int {
	sum := 0
	for column, lift := range lifts {
		sum += c.cost(column, lift)
	}
	return sum
}

// CheckLifts returns the cost of lifts of levels towards targets.
func CheckLifts(levels, targets, lifts []int, r Rules) (int, api.Errno) {
	c := course{levels, targets, r}
	if e := base.FirstError(c.check(), c.checkLifts(lifts)); e != api.OK {
		return 0, e
	}
	return c.total(lifts), api.OK
}

// impossible is the cost of going on from where the rules permit it to no lifts. It is above
// each other cost.
const impossible = 1 << 40

// onward is what the columns behind one cost at least, for each of its lifts.
type onward [MaxLift + 1]int

// next returns the first one of the lifts of a column with which it and all columns behind it
// cost least, if the column before it has a lift, and this cost.
func (c course) next(column, before int, behind onward) (int, int) {
	first, least := 0, impossible
	for lift := max(before-c.Ramp, 0); lift <= min(before+c.Ramp, c.Most); lift++ {
		if cost := c.cost(column, lift) + behind[lift]; cost < least {
			first, least = lift, cost
		}
	}
	return first, least
}

// behind returns what the columns behind each column of a course without an error cost.
func (c course) behind() []onward {
	last := len(c.levels) - 1
	behind := make([]onward, last+1)
	for lift := c.Ramp + 1; lift <= MaxLift; lift++ {
		behind[last][lift] = impossible
	}
	for column := last; column > 0; column-- {
		for lift := range MaxLift + 1 {
			_, behind[column-1][lift] = c.next(column, lift, behind[column])
		}
	}
	return behind
}

// best returns the best lifts of a course without an error.
func (c course) best() []int {
	behind := c.behind()
	lifts := make([]int, len(c.levels))
	before := 0
	for column := range len(lifts) {
		before, _ = c.next(column, before, behind[column])
		lifts[column] = before
	}
	return lifts
}

// Design returns the best lifts, and their cost.
func Design(levels, targets []int, r Rules) ([]int, int, api.Errno) {
	c := course{levels, targets, r}
	if e := c.check(); e != api.OK {
		return nil, 0, e
	}
	lifts := c.best()
	return lifts, c.total(lifts), api.OK
}

// Lifted returns levels after lifts.
func Lifted(levels, lifts []int) ([]int, api.Errno) {
	e := base.FirstError(
		checkLevels(levels),
		base.ErrorIf(len(lifts) != len(levels), api.ErrShape),
		base.CheckEach(lifts, checkLift),
	)
	if e != api.OK {
		return nil, e
	}
	lifted := slices.Clone(levels)
	for column, lift := range lifts {
		lifted[column] += lift
	}
	return lifted, api.OK
}

// Ballast returns the tonnes that lifts need.
func Ballast(lifts []int, rate api.Ratio) (int, api.Errno) {
	e := base.FirstError(
		base.ErrorIf(len(lifts) > MaxColumns, api.ErrMany),
		base.CheckEach(lifts, checkLift),
		checkAmount(rate),
	)
	if e != api.OK {
		return 0, e
	}
	sum := 0
	for _, lift := range lifts {
		sum += lift
	}
	tonnes := base.RoundedUp(rate.Num*sum, rate.Den)
	if tonnes > api.MaxNumber {
		return 0, api.ErrLarge
	}
	return tonnes, api.OK
}
