package fault

import (
	"iter"

	"versine/api"
	"versine/base"
	"versine/sample"
)

// known visits the known places of a run without an error, ascending, with their
// integers.
func known(r sample.Run) iter.Seq2[int, int] {
	isKnown := base.KnownOf(len(r.Samples), r.Holes)
	return func(yield func(place, integer int) bool) {
		for i, x := range r.Samples {
			if isKnown[i] && !yield(r.First+i, base.IntegerOf(x)) {
				return
			}
		}
	}
}

// only returns the span that has one place.
func only(place int) api.Span { return api.Span{From: place, To: place + 1} }

// merged puts elements in order together, as long as at most so many places are between
// two of them.
func merged[T any](l []T, gap int, spanOf func(x T) api.Span, with func(x, next T) T) []T {
	var out []T
	for _, x := range l {
		last := len(out) - 1
		if last < 0 || spanOf(x).From-spanOf(out[last]).To > gap {
			out = append(out, x)
			continue
		}
		out[last] = with(out[last], x)
	}
	return out
}
