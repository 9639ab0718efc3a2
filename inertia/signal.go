package inertia

import (
	"versine/api"
	"versine/base"
	"versine/sample"
)

// CheckSignal returns the first error of a signal, or OK.
func CheckSignal(l []float32) api.Errno {
	if len(l) > api.MaxSamples {
		return api.ErrMany
	}
	return base.CheckEach(l, sample.CheckSample)
}

// checkPair returns the first error of two signals that must have as many samples,
// or OK.
func checkPair(a, b []float32) api.Errno {
	return base.FirstError(CheckSignal(a), CheckSignal(b), checkShape(len(a), len(b)))
}

// checkLine returns the first error of a signal through which a line must go, or OK.
func checkLine(l []float32) api.Errno { return base.FirstError(CheckSignal(l), checkLength(l)) }

func checkLength(l []float32) api.Errno { return base.ErrorIf(len(l) < 2, api.ErrShort) }

func checkShape(n, k int) api.Errno { return base.ErrorIf(n != k, api.ErrShape) }

// integersOf returns the integers of a signal without an error.
func integersOf(l []float32) []int { return base.Mapped(l, base.IntegerOf) }

// signalOf returns the signal with integers, or ErrLarge if one is none of a sample.
func signalOf(l []int) ([]float32, api.Errno) {
	isLarge := func(n int) api.Errno { return base.ErrorIf(!base.IsOfSample(n), api.ErrLarge) }
	if e := base.CheckEach(l, isLarge); e != api.OK {
		return nil, e
	}
	return base.Mapped(l, base.SampleOf), api.OK
}

// merged returns what f makes of each two integers of two lists of one length.
func merged(a, b []int, f func(n, k int) int) []int {
	out := make([]int, len(a))
	for i, n := range a {
		out[i] = f(n, b[i])
	}
	return out
}
