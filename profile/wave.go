package profile

import (
	"iter"

	"versine/api"
	"versine/base"
	"versine/sample"
)

// allKnown is what is known of the samples of a window.
var allKnown = [4]bool{true, true, true, true}

// windows visits the transforms of all windows of a run without an error.
func windows(r sample.Run) iter.Seq[[4]complex64] {
	known := base.KnownOf(len(r.Samples), r.Holes)
	size := len(allKnown)
	return func(yield func(transform [4]complex64) bool) {
		for n := range len(known) / size {
			at := n * size
			if [4]bool(known[at:at+size]) != allKnown {
				continue
			}
			transform, e := sample.Four([4]float32(r.Samples[at : at+size]))
			if e == api.OK && !yield(transform) {
				return
			}
		}
	}
}

// power returns the sum of the squares of both parts, each of them times 16.
func power(z complex64) int {
	re, im := base.IntegerOf(real(z)), base.IntegerOf(imag(z))
	return re*re + im*im
}

// Corrugation returns the corrugation of a run, and the number of windows.
func Corrugation(r sample.Run) ([3]int, int, api.Errno) {
	if e := sample.CheckRun(r); e != api.OK {
		return [3]int{}, 0, e
	}
	var sums [3]int
	n := 0
	for transform := range windows(r) {
		for k := range sums {
			sums[k] += power(transform[k])
		}
		n++
	}
	return sums, n, api.OK
}
