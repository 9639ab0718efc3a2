package chord

import (
	"slices"

	"versine/api"
	"versine/base"
	"versine/sample"
)

// Traced returns the trace of a run.
func Traced(r sample.Run) (Trace, api.Errno) {
	if e := sample.CheckRun(r); e != api.OK {
		return Trace{}, e
	}
	values := base.Mapped(r.Samples, base.IntegerOf)
	return Trace{First: r.First, Values: values, Holes: slices.Clone(r.Holes)}, api.OK
}

// Reversed returns a trace that is reversed about a place.
func Reversed(t Trace, pivot int) (Trace, api.Errno) {
	if e := base.FirstError(CheckTrace(t), base.CheckBetween(pivot, 0, api.MaxPlace)); e != api.OK {
		return Trace{}, e
	}
	r := rowOf(t)
	r.First = 2*pivot + 1 - t.end()
	if r.First < 0 || r.end() > api.MaxPlace {
		return Trace{}, api.ErrSpan
	}
	slices.Reverse(r.Values)
	slices.Reverse(r.known)
	return r.trace(), api.OK
}

// Sum returns the sum of two traces.
func Sum(a, b Trace) (Trace, api.Errno) {
	if e := base.FirstError(CheckTrace(a), CheckTrace(b), base.ErrorIf(!a.hasPlacesOf(b), api.ErrShape)); e != api.OK {
		return Trace{}, e
	}
	x, y := rowOf(a), rowOf(b)
	sum := newRow(a.First, len(a.Values))
	for p := range sum.places() {
		n, isKnown := x.at(p)
		k, isOtherKnown := y.at(p)
		if isKnown && isOtherKnown {
			sum.put(p, n+k)
		}
	}
	return sum.checked()
}
