package chord

import (
	"versine/api"
	"versine/base"
)

// length returns the length of a chord, from end to end.
func (c Chord) length() int { return c.Before + c.After }

// turned returns a chord with its arms exchanged.
func (c Chord) turned() Chord { return Chord{c.After, c.Before} }

// tap is by how much the value at a distance from a place counts there.
type tap struct {
	distance int
	weight   int
}

// measured returns at each place of a trace that has all taps, which ascend, the
// sum of what they count there. It is known if all values at the taps are.
func measured(t Trace, taps []tap) (Trace, api.Errno) {
	least, most := taps[0].distance, taps[len(taps)-1].distance
	n := len(t.Values) - (most - least)
	if n <= 0 {
		return Trace{}, api.ErrShort
	}
	from, to := rowOf(t), newRow(t.First-least, n)
	for p := range to.places() {
		if sum, isKnown := from.sumAt(p, taps); isKnown {
			to.put(p, sum)
		}
	}
	return to.checked()
}

// sumAt returns the sum of what taps count at a place, and whether it is known.
func (r row) sumAt(place int, taps []tap) (int, bool) {
	sum := 0
	for _, x := range taps {
		value, isKnown := r.at(place + x.distance)
		if !isKnown {
			return 0, false
		}
		sum += x.weight * value
	}
	return sum, true
}

// versineTaps returns the taps of the versines by a chord.
func (c Chord) versineTaps() []tap {
	return []tap{{-c.Before, -c.After}, {0, c.length()}, {c.After, -c.Before}}
}

// Versines returns the versines of a trace by a chord.
func Versines(c Chord, t Trace) (Trace, api.Errno) {
	if e := base.FirstError(CheckChord(c), CheckTrace(t)); e != api.OK {
		return Trace{}, e
	}
	return measured(t, c.versineTaps())
}

// Curvature returns the curvature of a trace.
func Curvature(t Trace) (Trace, api.Errno) { return Versines(Chord{1, 1}, t) }

// weightTaps returns the taps of the weights of a chord, which are a step apart.
func (c Chord) weightTaps(step int) []tap {
	taps := make([]tap, c.length()-1)
	for i := range taps {
		k := i + 1 - c.Before
		weight := c.Before * (c.After - k)
		if k <= 0 {
			weight = c.After * (c.Before + k)
		}
		taps[i] = tap{k * step, weight}
	}
	return taps
}

// weights returns the weights of a chord.
func (c Chord) weights() []int {
	return base.Mapped(c.weightTaps(1), func(x tap) int { return x.weight })
}

// Weights returns the weights of a chord.
func Weights(c Chord) ([]int, api.Errno) { return ofChord(c, Chord.weights) }

// Weighted returns a curvature, weighted by a chord.
func Weighted(c Chord, curvature Trace) (Trace, api.Errno) { return Lengthened(c, 1, curvature) }

// Lengthened returns readings, lengthened by a step and a chord.
func Lengthened(c Chord, step int, readings Trace) (Trace, api.Errno) {
	e := base.FirstError(CheckChord(c), base.CheckBetween(step, 1, MaxArm), CheckTrace(readings))
	if e != api.OK {
		return Trace{}, e
	}
	return measured(readings, c.weightTaps(step))
}

// widthTaps returns the taps of the sum of all values up to a half width away.
func widthTaps(half int) []tap {
	taps := make([]tap, 2*half+1)
	for i := range taps {
		taps[i] = tap{i - half, 1}
	}
	return taps
}

// Smoothed returns the smoothed trace.
func Smoothed(t Trace, half int) (Trace, api.Errno) {
	if e := base.FirstError(CheckTrace(t), checkHalf(half)); e != api.OK {
		return Trace{}, e
	}
	return measured(t, widthTaps(half))
}

// bandTaps returns the taps of the band between two half widths.
func bandTaps(short, long int) []tap {
	taps := widthTaps(long)
	for i, x := range taps {
		taps[i].weight = -(2*short + 1)
		if -short <= x.distance && x.distance <= short {
			taps[i].weight += 2*long + 1
		}
	}
	return taps
}

// Band returns the band of a trace between two half widths.
func Band(t Trace, short, long int) (Trace, api.Errno) {
	e := base.FirstError(CheckTrace(t), checkHalf(short), checkHalf(long), base.ErrorIf(short >= long, api.ErrOrder))
	if e != api.OK {
		return Trace{}, e
	}
	return measured(t, bandTaps(short, long))
}
