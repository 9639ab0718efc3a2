package profile

import (
	"versine/api"
	"versine/base"
)

// inclination returns the inclination from a column to a greater one.
func (p Profile) inclination(a, b int) api.Ratio {
	return base.Ratio(p.height(b)-p.height(a), b-a)
}

// Inclination returns the inclination between two columns.
func Inclination(p Profile, a, b int) (api.Ratio, api.Errno) {
	e := base.FirstError(CheckProfile(p), checkColumn(a, p), checkColumn(b, p), base.ErrorIf(b <= a, api.ErrOrder))
	if e != api.OK {
		return api.Ratio{}, e
	}
	return p.inclination(a, b), api.OK
}

// Conicity returns the conicity at a centre for an amplitude.
func Conicity(p Profile, centre, amplitude int) (api.Ratio, api.Errno) {
	left, right := centre-amplitude, centre+amplitude // what wraps around is no column either
	e := base.FirstError(CheckProfile(p), base.CheckBetween(amplitude, 1, MaxSide), checkColumn(left, p), checkColumn(right, p))
	if e != api.OK {
		return api.Ratio{}, e
	}
	return p.inclination(left, right), api.OK
}

// contact returns the column at which a wheel in its place touches a rail, the gap
// there, and whether they have a column in common.
func contact(rail, wheel Profile) (column, gap int, isAny bool) {
	for c := range rail.columns() {
		if !wheel.has(c) {
			continue
		}
		if g := wheel.height(c) - rail.height(c); !isAny || g < gap {
			column, gap, isAny = c, g, true
		}
	}
	return column, gap, isAny
}

// Contact returns the column at which wheel and rail touch, and the gap there.
func Contact(rail, wheel Profile, shift int) (int, int, api.Errno) {
	if e := base.FirstError(CheckProfile(rail), CheckProfile(wheel), checkShift(shift)); e != api.OK {
		return 0, 0, e
	}
	column, gap, isAny := contact(rail, wheel.moved([2]int{shift, 0}))
	return column, gap, base.ErrorIf(!isAny, api.ErrNone)
}
