package fault

import (
	"versine/api"
	"versine/base"
	"versine/sample"
)

func (f Fault) span() api.Span { return f.Span }

// with returns a fault together with the next one.
func (f Fault) with(next Fault) Fault {
	f.Span.To = next.Span.To
	f.Sure = f.Sure || next.Sure
	if size(next.Value) > size(f.Value) {
		f.Value = next.Value
	}
	return f
}

// exceeded returns the faults of a run by a row.
func exceeded(r sample.Run, band int, row Row) []Fault {
	var places []Fault
	for place, value := range known(r) {
		if size(value)+band > row.Most {
			places = append(places, Fault{only(place), value, size(value)-band > row.Most})
		}
	}
	return merged(places, 0, Fault.span, Fault.with)
}

// Exceeded returns the faults of a run for a speed.
func Exceeded(l Limits, r sample.Run, speed int) ([]Fault, api.Errno) {
	if e := base.FirstError(CheckLimits(l), sample.CheckRun(r), checkSpeed(speed)); e != api.OK {
		return nil, e
	}
	row, isAny := l.rowFor(speed)
	if !isAny {
		return nil, api.ErrNone
	}
	f := exceeded(r, l.Band, row)
	if len(f) > MaxFaults {
		return nil, api.ErrMany
	}
	return f, api.OK
}

// CheckFaults returns the first error of faults, or OK.
func CheckFaults(f []Fault) api.Errno {
	if len(f) > MaxFaults {
		return api.ErrMany
	}
	end := 0 // of the fault before
	for _, x := range f {
		e := base.FirstError(
			checkSpan(x.Span),
			base.ErrorIf(x.Span.From < end, api.ErrOrder),
			checkValue(x.Value),
		)
		if e != api.OK {
			return e
		}
		end = x.Span.To
	}
	return api.OK
}

// Merged returns the merged faults.
func Merged(f []Fault, gap int) ([]Fault, api.Errno) {
	if e := base.FirstError(CheckFaults(f), base.CheckBetween(gap, 0, MaxGap)); e != api.OK {
		return nil, e
	}
	return merged(f, gap, Fault.span, Fault.with), api.OK
}
