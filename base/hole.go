package base

import (
	"versine/api"
)

// CheckHoles returns the error of the first hole of values with one, then
// ErrForm if a value in a hole is not 0, or OK.
func CheckHoles[T comparable](values []T, holes []api.Span) api.Errno {
	end := -1 // of the hole before: every first one begins above it
	for _, h := range holes {
		e := FirstError(
			ErrorIf(h.From < 0 || h.From >= h.To || h.To > len(values), api.ErrSpan),
			ErrorIf(h.From <= end, api.ErrOrder),
		)
		if e != api.OK {
			return e
		}
		end = h.To
	}
	var nothing T
	for _, h := range holes {
		for _, x := range values[h.From:h.To] {
			if x != nothing {
				return api.ErrForm
			}
		}
	}
	return api.OK
}

// HolesOf returns the longest spans of indices of which nothing is known.
func HolesOf(known []bool) []api.Span {
	var holes []api.Span
	for i, is := range known {
		switch {
		case is:
		case i > 0 && !known[i-1]:
			holes[len(holes)-1].To = i + 1
		default:
			holes = append(holes, api.Span{From: i, To: i + 1})
		}
	}
	return holes
}
