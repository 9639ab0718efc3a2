package quality

import (
	"iter"

	"versine/api"
	"versine/base"
	"versine/sample"
)

// unknown is the index of a window with a sample that is unknown.
const unknown = -1

func checkSize(n int) api.Errno { return base.CheckBetween(n, 2, MaxWindow) }

// windows visits the windows of a run without an error, with the moments of their known
// integers.
func windows(r sample.Run, size int) iter.Seq[Moments] {
	l := levelsOf(r)
	return func(yield func(m Moments) bool) {
		for from := 0; from+size <= len(r.Samples); from += size {
			if !yield(l.moments(api.Span{From: from, To: from + size})) {
				return
			}
		}
	}
}

// indices returns the indices of all windows of a run without an error.
func indices(r sample.Run, size int) []int {
	var l []int
	for m := range windows(r, size) {
		if m.Count < size {
			l = append(l, unknown)
			continue
		}
		l = append(l, base.Rounded(m.variance()))
	}
	return l
}

// Indices returns the indices of all windows of a run.
func Indices(r sample.Run, size int) ([]int, api.Errno) {
	if e := base.FirstError(sample.CheckRun(r), checkSize(size)); e != api.OK {
		return nil, e
	}
	return indices(r, size), api.OK
}

// Worst returns the window with the greatest index, and this index.
func Worst(r sample.Run, size int) (int, int, api.Errno) {
	if e := base.FirstError(sample.CheckRun(r), checkSize(size)); e != api.OK {
		return 0, 0, e
	}
	worst, greatest := 0, unknown
	for window, index := range indices(r, size) {
		if index > greatest {
			worst, greatest = window, index
		}
	}
	if greatest == unknown {
		return 0, 0, api.ErrNone
	}
	return worst, greatest, api.OK
}

// Above returns the spans of places of windows whose index is above a limit.
func Above(r sample.Run, size, limit int) ([]api.Span, api.Errno) {
	e := base.FirstError(
		sample.CheckRun(r), checkSize(size),
		base.CheckBetween(limit, 0, MaxLevel*MaxLevel),
	)
	if e != api.OK {
		return nil, e
	}
	var above []api.Span // of windows
	for window, index := range indices(r, size) {
		if index > limit {
			above = base.Extended(above, window)
		}
	}
	return base.Mapped(above, func(s api.Span) api.Span {
		return api.Span{From: r.First + s.From*size, To: r.First + s.To*size}
	}), api.OK
}
