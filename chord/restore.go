package chord

import (
	"versine/api"
	"versine/base"
)

// Turned returns the turned chord.
func Turned(c Chord) (Chord, api.Errno) { return ofChord(c, Chord.turned) }

// Restored returns the heights with readings and ends.
func Restored(c Chord, readings Trace, ends []int) (Trace, api.Errno) {
	e := base.FirstError(
		CheckChord(c),
		CheckTrace(readings),
		base.ErrorIf(len(ends) != c.length(), api.ErrShape),
		base.CheckEach(ends, checkReading),
		base.ErrorIf(readings.First < c.Before, api.ErrSpan),
		base.ErrorIf(len(readings.Values)+c.length() > api.MaxSamples, api.ErrMany),
		base.ErrorIf(readings.end()+c.After > api.MaxPlace, api.ErrLarge),
	)
	if e != api.OK {
		return Trace{}, e
	}
	heights := newRow(readings.First-c.Before, len(readings.Values)+c.length())
	for i, height := range ends {
		heights.put(heights.First+i, height)
	}
	if e := restore(c, rowOf(readings), heights); e != api.OK {
		return Trace{}, e
	}
	return heights.trace(), api.OK
}

// restore puts heights behind the ends, or returns the error of the first one with
// one.
func restore(c Chord, readings, heights row) api.Errno {
	for p := range readings.places() {
		reading, isKnown := readings.at(p)
		middle, isMiddleKnown := heights.at(p)
		before, isBeforeKnown := heights.at(p - c.Before)
		if !isKnown || !isMiddleKnown || !isBeforeKnown {
			continue
		}
		rest := c.length()*middle - c.After*before - reading
		height := rest / c.Before
		e := base.FirstError(base.ErrorIf(height*c.Before != rest, api.ErrForm), base.ErrorIf(isLarge(height), api.ErrLarge))
		if e != api.OK {
			return e
		}
		heights.put(p+c.After, height)
	}
	return api.OK
}

// Again reports whether heights give readings again.
func Again(c Chord, heights, readings Trace) (bool, api.Errno) {
	if e := base.FirstError(CheckChord(c), CheckTrace(heights), CheckTrace(readings)); e != api.OK {
		return false, e
	}
	versines, e := measured(heights, c.versineTaps())
	if e != api.OK {
		return false, e
	}
	if !versines.hasPlacesOf(readings) {
		return false, api.ErrShape
	}
	return agree(rowOf(versines), rowOf(readings)), api.OK
}

// agree reports whether two rows with the same places have the same values at all
// places at which both are known.
func agree(a, b row) bool {
	areSame := true
search:
	for p := range a.places() {
		n, isKnown := a.at(p)
		k, isOtherKnown := b.at(p)
		switch {
		case !isKnown || !isOtherKnown:
			continue
		case n != k:
			areSame = false
			break search
		}
	}
	return areSame
}
