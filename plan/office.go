package plan

import (
	"versine/api"
	"versine/base"
	"versine/sample"
)

// The reasons for which a section is late.
const (
	noDay     = "day"
	noHours   = "hours"
	noBallast = "ballast"
)

func checkName(name string) api.Errno { return base.ErrorIf(!sample.IsName(name), api.ErrName) }

func checkDay(n int) api.Errno { return base.CheckBetween(n, 0, api.MaxDay) }

func checkTonnes(n int) api.Errno { return base.CheckBetween(n, 0, MaxTonnes) }

// checkNumbers returns the first error of the numbers of a section, or OK.
func (s Section) checkNumbers() api.Errno {
	return base.FirstError(
		checkDay(s.Deadline),
		base.CheckBetween(s.Work, 1, MaxWork),
		checkTonnes(s.Ballast),
		base.CheckBetween(s.Value, 0, MaxValue),
	)
}

// checkNumbers returns the first error of the numbers of a shift, or OK.
func (s Shift) checkNumbers() api.Errno {
	return base.FirstError(
		checkDay(s.Day),
		base.CheckBetween(s.Hours, 0, MaxWork),
		checkTonnes(s.Ballast),
		base.CheckBetween(s.Rate, 0, MaxRate),
	)
}

func checkSections(l []Section) api.Errno {
	seen := base.Names{}
	return base.CheckEach(l, func(s Section) api.Errno {
		return base.FirstError(checkName(s.Name), seen.CheckNext(s.Name), s.checkNumbers())
	})
}

func checkShifts(l []Shift) api.Errno {
	last := 0
	return base.CheckEach(l, func(s Shift) api.Errno {
		e := base.FirstError(s.checkNumbers(), base.ErrorIf(s.Day < last, api.ErrOrder))
		last = s.Day
		return e
	})
}

// CheckOffice returns the first error of sections and shifts, or OK.
func CheckOffice(o Office) api.Errno {
	return base.FirstError(
		base.ErrorIf(len(o.Sections) > MaxSections, api.ErrMany),
		base.ErrorIf(len(o.Shifts) > MaxShifts, api.ErrMany),
		checkSections(o.Sections),
		checkShifts(o.Shifts),
	)
}

// isInTime reports whether a shift is not after the deadline of a section.
func (s Shift) isInTime(x Section) bool { return s.Day <= x.Deadline }

// reason returns why a section of an office is late, or nothing if it is not.
func (o Office) reason(x Section) string {
	why := noDay
	for _, s := range o.Shifts {
		if !s.isInTime(x) {
			continue
		}
		switch e := s.room().without(x).check(); {
		case e == api.OK:
			return ""
		case e == api.ErrLimit:
			why = noBallast
		case why == noDay:
			why = noHours
		}
	}
	return why
}

// Late returns the sections that no shift can take, and why.
func Late(o Office) ([]Reason, api.Errno) {
	if e := CheckOffice(o); e != api.OK {
		return nil, e
	}
	var late []Reason
	for i, x := range o.Sections {
		if why := o.reason(x); why != "" {
			late = append(late, Reason{i, why})
		}
	}
	return late, api.OK
}
