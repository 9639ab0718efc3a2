package network

import (
	"slices"

	"versine/api"
	"versine/base"
)

// CheckHistory returns the first error of a history, or OK.
func CheckHistory(h []Survey) api.Errno {
	e := base.FirstError(
		base.ErrorIf(len(h) == 0, api.ErrEmpty),
		base.ErrorIf(len(h) > MaxSurveys, api.ErrMany),
	)
	if e != api.OK {
		return e
	}
	for i, s := range h {
		if e := checkSurvey(h[:i], s); e != api.OK {
			return e
		}
	}
	return api.OK
}

// checkSurvey returns the first error of a survey behind others of a history.
func checkSurvey(before []Survey, s Survey) api.Errno {
	if len(before) == 0 {
		return base.FirstError(
			base.CheckBetween(s.Day, 0, api.MaxDay),
			CheckNetwork(s.Network),
			CheckMap(s.Map),
			base.ErrorIf(len(s.Map) > 0, api.ErrRule),
		)
	}
	last := before[len(before)-1]
	return base.FirstError(
		base.CheckBetween(s.Day, 0, api.MaxDay),
		base.ErrorIf(s.Day <= last.Day, api.ErrOrder),
		CheckNetwork(s.Network),
		Fits(s.Map, last.Network, s.Network), // the error of the map is its first one
	)
}

// On returns the index of the survey that is in force on a day.
func On(h []Survey, day int) (int, api.Errno) {
	if e := CheckHistory(h); e != api.OK {
		return 0, e
	}
	return inForce(h, day)
}

// inForce returns the index of the survey in force, or the error of the day.
func inForce(h []Survey, day int) (int, api.Errno) {
	e := base.FirstError(
		base.CheckBetween(day, 0, api.MaxDay),
		base.ErrorIf(day < h[0].Day, api.ErrNone),
	)
	if e != api.OK {
		return 0, e
	}
	index := 0
	for i, s := range h {
		if s.Day <= day {
			index = i
		}
	}
	return index, api.OK
}

// Since returns the address on one day of what has an address on another one.
func Since(h []Survey, day int, a Address, other int) (Address, api.Errno) {
	from, e := On(h, day)
	if e != api.OK {
		return Address{}, e
	}
	p, e := directoryOf(h[from].Network).placeOf(a)
	if e != api.OK {
		return Address{}, e
	}
	to, e := inForce(h, other)
	if e != api.OK {
		return Address{}, e
	}
	for _, m := range mapsBetween(h, from, to) {
		isCarried := false
		if p, isCarried = carriedBy(m, p); !isCarried {
			return Address{}, api.ErrNone
		}
	}
	return directoryOf(h[to].Network).addressOf(p), api.OK
}

// mapsBetween returns the moves that carry places of one survey to another one, map
// by map in the order in which they do.
func mapsBetween(h []Survey, from, to int) [][]Move {
	between := h[min(from, to)+1 : max(from, to)+1]
	maps := base.Mapped(between, func(s Survey) []Move { return s.Map })
	if from > to {
		slices.Reverse(maps)
		maps = base.Mapped(maps, allUndone)
	}
	return maps
}
