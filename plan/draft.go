package plan

import (
	"slices"

	"versine/api"
	"versine/base"
)

// none is the number of a section that no shift takes.
const none = -1

// room is the hours and the tonnes that a shift has left.
type room [2]int

func (s Shift) room() room { return room{s.Hours, s.Ballast} }

// without returns what is left without a section: less than nothing if that is too much.
func (r room) without(x Section) room { return room{r[0] - x.Work, r[1] - x.Ballast} }

// check returns why sections took more than there was, or OK.
func (r room) check() api.Errno {
	return base.FirstError(base.ErrorIf(r[0] < 0, api.ErrLarge), base.ErrorIf(r[1] < 0, api.ErrLimit))
}

// draft is a plan, or the beginning of one, with its told value, and what it leaves of each
// shift.
type draft struct {
	Told
	shifts []int
	left   [MaxShifts]room
}

// draft returns the beginning of all plans of an office without an error.
func (o Office) draft() draft {
	var d draft
	for i, s := range o.Shifts {
		d.left[i] = s.room()
	}
	return d
}

// with returns a draft in which a shift takes the next section, or none does.
func (o Office) with(d draft, shift int) draft {
	x := o.Sections[len(d.shifts)]
	d.shifts = append(slices.Clone(d.shifts), shift)
	if shift != none {
		d.Value += x.Value
		d.Cost += x.Work * o.Shifts[shift].Rate
		d.left[shift] = d.left[shift].without(x)
	}
	return d
}

// checkDays returns ErrOver if a plan has a section in a shift after its deadline.
func (o Office) checkDays(plan []int) api.Errno {
	for i, shift := range plan {
		if shift != none && !o.Shifts[shift].isInTime(o.Sections[i]) {
			return api.ErrOver
		}
	}
	return api.OK
}

// drafted returns a plan of an office, or the first error of both.
func drafted(o Office, plan []int) (draft, api.Errno) {
	e := base.FirstError(
		CheckOffice(o),
		base.ErrorIf(len(plan) != len(o.Sections), api.ErrShape),
		base.CheckEach(plan, func(shift int) api.Errno {
			return base.ErrorIf(shift < none || shift >= len(o.Shifts), api.ErrUnknown)
		}),
	)
	if e != api.OK {
		return draft{}, e
	}
	d := o.draft()
	for _, shift := range plan {
		d = o.with(d, shift)
	}
	return d, base.FirstError(o.checkDays(plan), base.CheckEach(d.left[:], room.check))
}

// CheckPlan returns the value and the cost of a plan.
func CheckPlan(o Office, plan []int) (Told, api.Errno) {
	d, e := drafted(o, plan)
	if e != api.OK {
		return Told{}, e
	}
	return d.Told, api.OK
}

// Left returns the hours and the tonnes that a plan leaves of each shift.
func Left(o Office, plan []int) ([][2]int, api.Errno) {
	d, e := drafted(o, plan)
	if e != api.OK {
		return nil, e
	}
	return base.Mapped(d.left[:len(o.Shifts)], func(r room) [2]int { return r }), api.OK
}

// Last returns the last day of a plan.
func Last(o Office, plan []int) (int, api.Errno) {
	d, e := drafted(o, plan)
	if e != api.OK {
		return 0, e
	}
	for i, s := range slices.Backward(o.Shifts) {
		if d.left[i] != s.room() { // each section takes hours of its shift
			return s.Day, api.OK
		}
	}
	return 0, api.ErrNone
}
