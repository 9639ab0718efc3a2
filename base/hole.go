package base

import (
	"slices"

	"versine/api"
)

// CheckHoles returns the error of the first hole of values with one, then
// ErrForm if a value in a hole is not 0, or OK.
func CheckHoles[T comparable](values []T, holes []api.Span) api.Errno {
	end := -1 // of the hole before: every first one begins above it
	for _, h := range holes {
		e := FirstError(
			ErrorIf(h.From < 0 || h.From >= h.To || h.To > len(values), api.ErrSpan),
			ErrorIf(h.From <= end, api.ErrOrder),
		)
		if e != api.OK {
			return e
		}
		end = h.To
	}
	var nothing T
	for _, h := range holes {
		for _, x := range values[h.From:h.To] {
			if x != nothing {
				return api.ErrForm
			}
		}
	}
	return api.OK
}

// HolesOf returns the longest spans of indices of which nothing is known.
func HolesOf(known []bool) []api.Span {
	var holes []api.Span
	for i, is := range known {
		if !is {
			holes = Extended(holes, i)
		}
	}
	return holes
}

// Extended appends an index, or a place, to ascending spans that end up to it: to the
// last one if both touch.
func Extended(spans []api.Span, index int) []api.Span {
	if k := len(spans) - 1; k >= 0 && spans[k].To == index {
		spans[k].To++
		return spans
	}
	return append(spans, api.Span{From: index, To: index + 1})
}

// KnownOf returns which of n values are in none of their holes.
func KnownOf(n int, holes []api.Span) []bool {
	known := slices.Repeat([]bool{true}, n)
	for _, h := range holes {
		clear(known[h.From:h.To])
	}
	return known
}
