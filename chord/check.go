package chord

import (
	"versine/api"
	"versine/base"
)

// CheckChord returns the error of a chord, or OK.
func CheckChord(c Chord) api.Errno {
	return base.FirstError(base.CheckBetween(c.Before, 1, MaxArm), base.CheckBetween(c.After, 1, MaxArm))
}

// CheckTrace returns the first error of a trace, or OK.
func CheckTrace(t Trace) api.Errno {
	return base.FirstError(
		base.CheckBetween(t.First, 0, api.MaxPlace),
		base.ErrorIf(len(t.Values) > api.MaxSamples, api.ErrMany),
		base.ErrorIf(t.end() > api.MaxPlace, api.ErrLarge),
		base.CheckEach(t.Values, checkReading),
		base.CheckHoles(t.Values, t.Holes),
	)
}

func checkReading(n int) api.Errno { return base.CheckBetween(n, -MaxReading, MaxReading) }

func checkHalf(half int) api.Errno { return base.CheckBetween(half, 0, MaxHalf) }

func checkWave(wave []int) api.Errno {
	return base.FirstError(
		base.ErrorIf(len(wave) == 0, api.ErrEmpty),
		base.ErrorIf(len(wave) > MaxWave, api.ErrMany),
		base.CheckEach(wave, func(n int) api.Errno { return base.CheckBetween(n, -MaxLevel, MaxLevel) }),
	)
}

// ofChord returns what f makes of a chord, or the error of the chord.
func ofChord[T any](c Chord, f func(Chord) T) (T, api.Errno) {
	if e := CheckChord(c); e != api.OK {
		return *new(T), e
	}
	return f(c), api.OK
}
