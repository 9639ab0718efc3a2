package chord

import (
	"slices"

	"versine/api"
	"versine/base"
)

// turns has the powers of i, from the power 0 on.
var turns = [4]api.Gauss{{Re: 1, Im: 0}, {Re: 0, Im: 1}, {Re: -1, Im: 0}, {Re: 0, Im: -1}}

// turn returns i to a power from 0 on.
func turn(power int) complex128 {
	g := turns[power%len(turns)]
	return complex(float64(g.Re), float64(g.Im))
}

// turnBack returns i to less a power from 0 on.
func turnBack(power int) complex128 { return turn(3 * power) }

// transfer returns the transfer of a chord.
func (c Chord) transfer() [4]complex128 {
	before, after := complex(float64(c.Before), 0), complex(float64(c.After), 0)
	var out [4]complex128
	for k := range out {
		out[k] = before + after - after*turnBack(k*c.Before) - before*turn(k*c.After)
	}
	return out
}

// Transfer returns the transfer of a chord.
func Transfer(c Chord) ([4]complex128, api.Errno) { return ofChord(c, Chord.transfer) }

// isBlindTo reports whether a period divides both arms of a chord.
func (c Chord) isBlindTo(period int) bool { return c.Before%period == 0 && c.After%period == 0 }

// blindPeriods returns the blind periods of a chord.
func (c Chord) blindPeriods() []int {
	var periods []int
	for n := range MaxArm + 1 {
		if n >= 2 && c.isBlindTo(n) {
			periods = append(periods, n)
		}
	}
	return periods
}

// Blind returns the blind periods of a chord.
func Blind(c Chord) ([]int, api.Errno) { return ofChord(c, Chord.blindPeriods) }

// Both returns the blind periods of two chords.
func Both(c, d Chord) ([]int, api.Errno) {
	if e := base.FirstError(CheckChord(c), CheckChord(d)); e != api.OK {
		return nil, e
	}
	periods := c.blindPeriods()
	if d == c || d == c.turned() { // the same arms
		return periods, api.OK
	}
	return slices.DeleteFunc(periods, func(n int) bool { return !d.isBlindTo(n) }), api.OK
}

// Sees reports whether a chord sees a wave.
func Sees(c Chord, wave []int) (bool, api.Errno) {
	if e := base.FirstError(CheckChord(c), checkWave(wave)); e != api.OK {
		return false, e
	}
	// From one wave to the next one the versines repeat, so those of one are all.
	versines, e := measured(repeated(wave, 0, len(wave)+c.length()), c.versineTaps())
	return slices.ContainsFunc(versines.Values, func(n int) bool { return n != 0 }), e
}

// repeated returns a wave, repeated from a place on, for n places.
func repeated(wave []int, first, n int) Trace {
	values := make([]int, n)
	for i := range n {
		values[i] = wave[i%len(wave)]
	}
	return Trace{First: first, Values: values}
}

// Repeated returns a repeated wave.
func Repeated(wave []int, first, n int) (Trace, api.Errno) {
	e := base.FirstError(
		checkWave(wave),
		base.CheckBetween(first, 0, api.MaxPlace),
		base.CheckBetween(n, 0, api.MaxSamples),
		base.ErrorIf(first+n > api.MaxPlace, api.ErrLarge),
	)
	if e != api.OK {
		return Trace{}, e
	}
	return repeated(wave, first, n), api.OK
}

// allKnown is what is known of four values of which a panel can be made.
var allKnown = [4]bool{true, true, true, true}

// Panel returns the panel at a place.
func Panel(t Trace, place int) ([4]complex128, api.Errno) {
	if e := CheckTrace(t); e != api.OK {
		return [4]complex128{}, e
	}
	if place < t.First || place > t.end()-len(allKnown) {
		return [4]complex128{}, api.ErrUnknown
	}
	r := rowOf(t)
	var values [4]int
	var known [4]bool
	copy(values[:], r.Values[place-t.First:])
	copy(known[:], r.known[place-t.First:])
	if known != allKnown {
		return [4]complex128{}, api.ErrNone
	}
	return panelOf(values), api.OK
}

// panelOf returns the transform of four values.
func panelOf(values [4]int) [4]complex128 {
	var panel [4]complex128
	for k := range panel {
		for n, x := range values {
			panel[k] += complex(float64(x), 0) * turnBack(k*n)
		}
	}
	return panel
}
