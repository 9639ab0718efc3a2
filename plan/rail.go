package plan

import (
	"versine/api"
	"versine/base"
)

func checkHeat(n int) api.Errno { return base.CheckBetween(n, -MaxHeat, MaxHeat) }

func checkLength(n int) api.Errno { return base.CheckBetween(n, 1, MaxLength) }

func checkGrowth(n int) api.Errno { return base.CheckBetween(n, 1, MaxLength) }

func checkBand(x api.Interval) api.Errno { return base.CheckInterval(x, -MaxHeat, MaxHeat) }

// CheckRail returns the first error of a rail, or OK.
func CheckRail(r Rail) api.Errno {
	return base.FirstError(
		checkLength(r.Length),
		checkHeat(r.Heat),
		base.CheckBetween(r.Extension, 0, r.Length),
	)
}

// product returns the length of a rail times its neutral temperature.
func (r Rail) product(growth int) int { return r.Heat*r.Length + r.Extension*growth }

// isIn reports whether a rail is in a band.
func (r Rail) isIn(growth int, band api.Interval) bool {
	product := r.product(growth)
	return band.Low*r.Length <= product && product <= band.High*r.Length
}

// neutral returns the neutral temperature of at least one rail without an error.
func neutral(growth int, l ...Rail) (api.Ratio, api.Errno) {
	products, length := 0, 0
	for _, r := range l {
		products += r.product(growth)
		length += r.Length
	}
	x := base.Ratio(products, length)
	if max(x.Num, -x.Num, x.Den) > api.MaxNumber {
		return api.Ratio{}, api.ErrLarge
	}
	return x, api.OK
}

// Neutral returns the neutral temperature of a rail.
func Neutral(r Rail, growth int) (api.Ratio, api.Errno) {
	if e := base.FirstError(CheckRail(r), checkGrowth(growth)); e != api.OK {
		return api.Ratio{}, e
	}
	return neutral(growth, r)
}

// InBand reports whether the neutral temperature of a rail is in a band.
func InBand(r Rail, growth int, band api.Interval) (bool, api.Errno) {
	if e := base.FirstError(CheckRail(r), checkGrowth(growth), checkBand(band)); e != api.OK {
		return false, e
	}
	return r.isIn(growth, band), api.OK
}

// Pull returns the least extension by which a rail comes into a band.
func Pull(length, heat, growth int, band api.Interval) (int, api.Errno) {
	r := Rail{Length: length, Heat: heat}
	e := base.FirstError(
		CheckRail(r), checkGrowth(growth), checkBand(band),
		base.ErrorIf(heat > band.High, api.ErrBand),
	)
	if e != api.OK {
		return 0, e
	}
	r.Extension = base.RoundedUp(max(band.Low-heat, 0)*length, growth)
	if r.Extension > length || !r.isIn(growth, band) {
		return 0, api.ErrInfeasible
	}
	return r.Extension, api.OK
}

// Joined returns the neutral temperature of rails that are welded together.
func Joined(l []Rail, growth int) (api.Ratio, api.Errno) {
	e := base.FirstError(
		base.ErrorIf(len(l) == 0, api.ErrEmpty),
		base.ErrorIf(len(l) > MaxJobs, api.ErrMany),
		base.CheckEach(l, CheckRail),
		checkGrowth(growth),
	)
	if e != api.OK {
		return api.Ratio{}, e
	}
	return neutral(growth, l...)
}
