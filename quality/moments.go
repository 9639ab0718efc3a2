package quality

import (
	"versine/api"
	"versine/base"
	"versine/sample"
)

// CheckMoments returns the first error of moments, or OK.
func CheckMoments(m Moments) api.Errno {
	return base.FirstError(
		base.CheckBetween(m.Count, 0, api.MaxSamples),
		base.CheckBetween(m.Sum, -m.Count*MaxLevel, m.Count*MaxLevel),
		base.CheckBetween(m.Squares, 0, m.Count*MaxLevel*MaxLevel),
		base.ErrorIf(m.Sum*m.Sum > m.Count*m.Squares, api.ErrConflict),
	)
}

// with returns the moments of both together.
func (m Moments) with(other Moments) Moments {
	return Moments{m.Count + other.Count, m.Sum + other.Sum, m.Squares + other.Squares}
}

// variance returns the numerator and the denominator of the variance, which are 0 if there
// are no integers.
func (m Moments) variance() (num, den int) {
	return m.Count*m.Squares - m.Sum*m.Sum, m.Count * m.Count
}

// levels is the integers of a run, and which of them are known.
type levels struct {
	integers []int
	known    []bool
}

// levelsOf returns the levels of a run without an error.
func levelsOf(r sample.Run) levels {
	return levels{base.Mapped(r.Samples, base.IntegerOf), base.KnownOf(len(r.Samples), r.Holes)}
}

// moments returns the moments of the known integers with indices in a span.
func (l levels) moments(span api.Span) Moments {
	var all Moments
	for i := span.From; i < span.To; i++ {
		if n := l.integers[i]; l.known[i] {
			all = all.with(Moments{1, n, n * n})
		}
	}
	return all
}

// checkPlaces returns ErrSpan if a span is none, or has places that a run does not have.
func checkPlaces(r sample.Run, places api.Span) api.Errno {
	isWithin := r.First <= places.From && places.From <= places.To && places.To <= r.First+len(r.Samples)
	return base.ErrorIf(!isWithin, api.ErrSpan)
}

// MomentsOf returns the moments of the known samples of a run in a span of places.
func MomentsOf(r sample.Run, places api.Span) (Moments, api.Errno) {
	if e := base.FirstError(sample.CheckRun(r), checkPlaces(r, places)); e != api.OK {
		return Moments{}, e
	}
	return levelsOf(r).moments(api.Span{From: places.From - r.First, To: places.To - r.First}), api.OK
}

// Added returns the moments of two lists of samples together.
func Added(a, b Moments) (Moments, api.Errno) {
	e := base.FirstError(
		CheckMoments(a), CheckMoments(b),
		base.ErrorIf(a.Count+b.Count > api.MaxSamples, api.ErrMany),
	)
	if e != api.OK {
		return Moments{}, e
	}
	return a.with(b), api.OK
}

// Variance returns the variance.
func Variance(m Moments) (api.Ratio, api.Errno) {
	if e := base.FirstError(CheckMoments(m), base.ErrorIf(m.Count == 0, api.ErrEmpty)); e != api.OK {
		return api.Ratio{}, e
	}
	return base.Ratio(m.variance()), api.OK
}
