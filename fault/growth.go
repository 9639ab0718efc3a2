package fault

import (
	"maps"

	"versine/api"
	"versine/base"
	"versine/sample"
)

func (g Growth) span() api.Span { return g.Span }

// with returns a growth together with the next one.
func (g Growth) with(next Growth) Growth {
	return Growth{api.Span{From: g.Span.From, To: next.Span.To}, max(g.Least, next.Least)}
}

// checkShape returns ErrShape for runs that are not of one first place and one number
// of samples.
func checkShape(a, b sample.Run) api.Errno {
	return base.ErrorIf(a.First != b.First || len(a.Samples) != len(b.Samples), api.ErrShape)
}

// Grown returns the growths from a run to another one.
func Grown(a, b sample.Run, bands [2]int) ([]Growth, api.Errno) {
	e := base.FirstError(
		sample.CheckRun(a), sample.CheckRun(b),
		checkShape(a, b), base.CheckEach(bands[:], checkBand),
	)
	if e != api.OK {
		return nil, e
	}
	before := maps.Collect(known(a))
	var places []Growth
	for place, value := range known(b) {
		was, isKnown := before[place]
		least := (size(value) - bands[1]) - (size(was) + bands[0])
		if isKnown && least > 0 {
			places = append(places, Growth{only(place), least})
		}
	}
	return merged(places, 0, Growth.span, Growth.with), api.OK
}

// question is a number that is asked of a measurement, and the greatest one that it may
// be.
type question struct {
	ask  func(m Measured) int
	most int
}

// questions returns all that is asked of a measurement.
func questions() [3]question {
	return [3]question{
		{func(m Measured) int { return m.Day }, api.MaxDay},
		{func(m Measured) int { return m.Value }, MaxValue},
		{func(m Measured) int { return m.Band }, MaxBand},
	}
}

// checkMeasured returns the first error of a measurement, or OK.
func checkMeasured(m Measured) api.Errno {
	all := questions()
	return base.CheckEach(all[:], func(q question) api.Errno {
		return base.CheckBetween(q.ask(m), 0, q.most)
	})
}

// Due returns the day on which a limit is due.
func Due(a, b Measured, limit int) (int, api.Errno) {
	e := base.FirstError(
		checkMeasured(a), checkMeasured(b),
		checkSize(limit), base.ErrorIf(b.Day <= a.Day, api.ErrOrder),
	)
	if e != api.OK {
		return 0, e
	}
	day, isAny := due(a, b, limit)
	if !isAny || day > api.MaxDay {
		return 0, api.ErrNone
	}
	return day, api.OK
}

// due returns the first day from the second measurement's on, on which the steepest line
// is above a limit, and whether there is one.
func due(a, b Measured, limit int) (int, bool) {
	from, to := a.Value-a.Band, b.Value+b.Band
	switch {
	case to > limit:
		return b.Day, true
	case to <= from: // it does not rise
		return 0, false
	}
	// It is above the limit as soon as the days behind the first measurement, times the
	// rise, are above this number.
	above := (limit - from) * (b.Day - a.Day)
	return a.Day + above/(to-from) + 1, true
}
