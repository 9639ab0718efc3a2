package quality

import (
	"slices"

	"versine/api"
	"versine/base"
	"versine/sample"
)

func checkDay(n int) api.Errno { return base.CheckBetween(n, 0, api.MaxDay) }

// checkIndex returns ErrRange for a number that is no index, no limit and no error of
// measurements.
func checkIndex(n int) api.Errno { return base.CheckBetween(n, 0, MaxIndex) }

// entry is what a section has in the order of its days.
type entry interface {
	day() int
	check() api.Errno
}

func (m Measurement) day() int { return m.Day }

// check returns the first error of a measurement, or OK.
func (m Measurement) check() api.Errno { return base.FirstError(checkDay(m.Day), checkIndex(m.Index)) }

func (a Act) day() int { return a.Day }

// check returns the first error of an intervention, or OK.
func (a Act) check() api.Errno {
	return base.FirstError(checkDay(a.Day), base.ErrorIf(!sample.IsName(a.Kind), api.ErrKind))
}

// checkEntries returns the first error of at most so many entries, or OK.
func checkEntries[T entry](l []T, most int) api.Errno {
	if len(l) > most {
		return api.ErrMany
	}
	for i, x := range l {
		if e := base.FirstError(x.check(), checkAfter(x, l[:i])); e != api.OK {
			return e
		}
	}
	return api.OK
}

// checkAfter returns ErrOrder if the day of an entry is not after that of the last one
// before it.
func checkAfter[T entry](x T, before []T) api.Errno {
	return base.ErrorIf(x.day() <= lastDay(before), api.ErrOrder)
}

// lastDay returns the day of the last entry, or the one before all days if there is none.
func lastDay[T entry](l []T) int {
	if len(l) == 0 {
		return -1
	}
	return l[len(l)-1].day()
}

// CheckSection returns the first error of a section, or OK.
func CheckSection(s Section) api.Errno {
	return base.FirstError(
		base.ErrorIf(!sample.IsName(s.Name), api.ErrName),
		checkEntries(s.Measured, MaxMeasured),
		checkEntries(s.Acts, MaxActs),
	)
}

// copied returns a section in memory of its own.
func (s Section) copied() Section {
	return Section{s.Name, slices.Clone(s.Measured), slices.Clone(s.Acts)}
}

// Measured returns a section with a further measurement.
func Measured(s Section, m Measurement) (Section, api.Errno) {
	e := base.FirstError(
		CheckSection(s), m.check(),
		base.ErrorIf(len(s.Measured) == MaxMeasured, api.ErrMany),
		checkAfter(m, s.Measured),
	)
	if e != api.OK {
		return Section{}, e
	}
	longer := s.copied()
	longer.Measured = append(longer.Measured, m)
	return longer, api.OK
}

// Done returns a section with a further intervention.
func Done(s Section, a Act) (Section, api.Errno) {
	e := base.FirstError(
		CheckSection(s), a.check(),
		base.ErrorIf(len(s.Acts) == MaxActs, api.ErrMany),
		checkAfter(a, s.Acts),
		base.ErrorIf(a.Day <= lastDay(s.Measured), api.ErrOver),
	)
	if e != api.OK {
		return Section{}, e
	}
	longer := s.copied()
	longer.Acts = append(longer.Acts, a)
	return longer, api.OK
}

// before returns how many measurements are before a day.
func (s Section) before(day int) int {
	n := 0
	for i := range len(s.Measured) {
		if s.Measured[i].Day < day {
			n++
		}
	}
	return n
}

// periods returns the measurements of each period of a section without an error.
func (s Section) periods() []api.Span {
	var l []api.Span
	from := 0
	for _, a := range s.Acts {
		to := s.before(a.Day)
		l = append(l, api.Span{From: from, To: to})
		from = to
	}
	return append(l, api.Span{From: from, To: len(s.Measured)})
}

// Periods returns the measurements of each period.
func Periods(s Section) ([]api.Span, api.Errno) {
	if e := CheckSection(s); e != api.OK {
		return nil, e
	}
	return s.periods(), api.OK
}

// checkPeriod returns the error of a section, then ErrUnknown if it does not have a period.
func checkPeriod(s Section, period int) api.Errno {
	return base.FirstError(CheckSection(s), base.ErrorIf(period < 0 || period > len(s.Acts), api.ErrUnknown))
}

// period returns the measurements of a period that a section without an error has.
func (s Section) period(k int) []Measurement {
	span := s.periods()[k]
	return s.Measured[span.From:span.To]
}
