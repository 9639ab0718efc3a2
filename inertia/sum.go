package inertia

import (
	"slices"

	"versine/api"
	"versine/base"
	"versine/sample"
)

// weights has what the samples of a second difference count in it.
var weights = [3]int{1, -2, 1}

// bent returns the second differences of at least 2 integers.
func bent(l []int) []int {
	bends := make([]int, len(l)+1-len(weights))
	for i := range bends {
		for k, weight := range weights {
			bends[i] += weight * l[i+k]
		}
	}
	return bends
}

// Bent returns the second differences of a signal.
func Bent(l []float32) ([]float32, api.Errno) {
	if e := checkLine(l); e != api.OK {
		return nil, e
	}
	return signalOf(bent(integersOf(l)))
}

// checkSums returns the first error of second differences and of two samples of the
// signal that has them, or OK.
func checkSums(bends []float32, ends [2]float32) api.Errno {
	return base.FirstError(
		CheckSignal(bends),
		base.CheckEach(ends[:], sample.CheckSample),
		base.ErrorIf(len(bends)+len(ends) > api.MaxSamples, api.ErrMany),
	)
}

// doubled returns the integers with second differences, from the first two on.
func doubled(bends []int, first, second int) []int {
	l := make([]int, 2+len(bends))
	l[0], l[1] = first, second
	copy(l[2:], bends)
	for i := 2; i < len(l); i++ {
		l[i] += 2*l[i-1] - l[i-2]
	}
	return l
}

// Doubled returns the signal with second differences, from its first two samples on.
func Doubled(bends []float32, first [2]float32) ([]float32, api.Errno) {
	if e := checkSums(bends, first); e != api.OK {
		return nil, e
	}
	return signalOf(doubled(integersOf(bends), base.IntegerOf(first[0]), base.IntegerOf(first[1])))
}

// Undoubled returns the signal with second differences, from its last two samples back.
func Undoubled(bends []float32, last [2]float32) ([]float32, api.Errno) {
	if e := checkSums(bends, last); e != api.OK {
		return nil, e
	}
	back := integersOf(bends)
	slices.Reverse(back) // the second differences in the other direction
	l := doubled(back, base.IntegerOf(last[1]), base.IntegerOf(last[0]))
	slices.Reverse(l)
	return signalOf(l)
}

// Halved returns the mean of two signals.
func Halved(a, b []float32) ([]float32, api.Errno) {
	if e := checkPair(a, b); e != api.OK {
		return nil, e
	}
	return signalOf(merged(integersOf(a), integersOf(b), func(n, k int) int { return base.Rounded(n+k, 2) }))
}
