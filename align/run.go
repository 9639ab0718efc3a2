package align

import (
	"iter"
	"slices"

	"versine/api"
	"versine/base"
	"versine/sample"
)

// strip is a run while its places are compared or set: the integers of its samples,
// and which of them are known.
type strip struct {
	first    int
	integers []int
	known    []bool
}

// stripOf returns the strip of a run without an error.
func stripOf(run sample.Run) strip {
	return strip{run.First, base.Mapped(run.Samples, base.IntegerOf), base.KnownOf(len(run.Samples), run.Holes)}
}

// newStrip returns a strip of n places, of which nothing is known.
func newStrip(first, n int) strip { return strip{first, make([]int, n), make([]bool, n)} }

// at returns the integer at a place, and whether it is there and known.
func (s strip) at(place int) (int, bool) {
	i := place - s.first
	if !has(s.known, i) {
		return 0, false
	}
	return s.integers[i], s.known[i]
}

// put makes the integer at a place known.
func (s strip) put(place, integer int) {
	i := place - s.first
	s.integers[i], s.known[i] = integer, true
}

// all visits the places of a strip that are known, ascending, with their integers.
func (s strip) all() iter.Seq2[int, int] {
	return func(yield func(place, integer int) bool) {
		for i, isKnown := range s.known {
			if isKnown && !yield(s.first+i, s.integers[i]) {
				return
			}
		}
	}
}

// run returns the run that a strip is.
func (s strip) run(name string) sample.Run {
	return sample.Run{Name: name, First: s.first, Samples: base.Mapped(s.integers, base.SampleOf), Holes: base.HolesOf(s.known)}
}

// Registered returns a run by counts as a run by places.
func Registered(r Ride, l []Pair, run sample.Run) (sample.Run, api.Errno) {
	e := base.FirstError(CheckPairs(r, l), sample.CheckRun(run), checkAny(l), base.ErrorIf(len(run.Samples) == 0, api.ErrShort))
	if e != api.OK {
		return sample.Run{}, e
	}
	fixes := r.fixes(l)
	first, last := guess(fixes, run.First), guess(fixes, run.First+len(run.Samples)-1)
	e = base.FirstError(
		base.ErrorIf(first < 0 || last >= api.MaxPlace, api.ErrRange), // guesses never descend
		base.ErrorIf(last-first+1 > api.MaxSamples, api.ErrMany),
	)
	if e != api.OK {
		return sample.Run{}, e
	}
	registered := newStrip(first, last-first+1)
	for count, integer := range stripOf(run).all() { // a later count takes the place of an earlier one
		registered.put(guess(fixes, count), integer)
	}
	return registered.run(run.Name), api.OK
}

// Moved returns a run that is moved.
func Moved(run sample.Run, by int) (sample.Run, api.Errno) {
	if e := base.FirstError(sample.CheckRun(run), base.CheckBetween(by, -api.MaxPlace, api.MaxPlace)); e != api.OK {
		return sample.Run{}, e
	}
	moved := copyOf(run)
	moved.First += by
	if e := base.CheckBetween(moved.First, 0, api.MaxPlace-len(moved.Samples)); e != api.OK {
		return sample.Run{}, e
	}
	return moved, api.OK
}

// copyOf returns a run without an error, with samples and holes of its own, and 0 for -0.
func copyOf(run sample.Run) sample.Run {
	run.Samples = base.Mapped(run.Samples, func(x float32) float32 { return base.SampleOf(base.IntegerOf(x)) })
	run.Holes = slices.Clone(run.Holes)
	return run
}
