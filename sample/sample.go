// Package sample is layer 1: names, ratios, samples, runs with holes, votes,
// transforms of four, packets, texts and streams (doc/01-sample.md).
package sample

import (
	"versine/api"
)

// Limits of factors, steps, packets and frames.
const (
	MaxScale   = 1000
	MaxStep    = 64
	MaxPackets = 1024
	Size       = 20
	Mark       = 90
)

// Run is samples from a place on, with holes.
type Run struct {
	Name    string
	First   int
	Samples []float32
	Holes   []api.Span
}

// Packet is three readings of a source, with a counter.
type Packet struct {
	Source   int
	Counter  int
	Readings [3]float32
}

// firstError returns the first error of a list, or OK. All of them have been
// computed when it is called, so each must be defined also where an earlier
// one is not OK.
func firstError(errors ...api.Errno) api.Errno {
	for _, e := range errors {
		if e != api.OK {
			return e
		}
	}
	return api.OK
}

// errorIf returns the error if it is so, and OK otherwise.
func errorIf(is bool, e api.Errno) api.Errno {
	if is {
		return e
	}
	return api.OK
}

// checkBetween returns ErrRange for a number that is not from least to most.
func checkBetween(n, least, most int) api.Errno {
	return errorIf(n < least || n > most, api.ErrRange)
}

// mapped returns the list of what f makes of each element.
func mapped[T, U any](l []T, f func(T) U) []U {
	out := make([]U, len(l))
	for i, x := range l {
		out[i] = f(x)
	}
	return out
}
