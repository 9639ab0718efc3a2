package inertia

import (
	"slices"

	"versine/api"
	"versine/base"
	"versine/sample"
)

// Cant returns the cant of two rails.
func Cant(left, right []float32) ([]float32, api.Errno) {
	if e := checkPair(left, right); e != api.OK {
		return nil, e
	}
	return signalOf(merged(integersOf(left), integersOf(right), func(n, k int) int { return k - n }))
}

// Twist returns the twist of a cant over a base.
func Twist(cant []float32, base int) ([]float32, api.Errno) {
	if e := checkTwist(cant, base); e != api.OK {
		return nil, e
	}
	if base >= len(cant) {
		return nil, api.OK
	}
	l := integersOf(cant)
	return signalOf(merged(l[:len(l)-base], l[base:], func(n, k int) int { return k - n }))
}

// checkTwist returns the first error of a cant and a length, or OK. (The base of a
// twist hides the package of this name.)
func checkTwist(cant []float32, length int) api.Errno {
	return base.FirstError(CheckSignal(cant), base.CheckBetween(length, 1, MaxBase))
}

// Gauge returns the gauge of two rails.
func Gauge(left, right []float32, nominal int) ([]int, api.Errno) {
	e := base.FirstError(
		CheckSignal(left),
		CheckSignal(right),
		base.CheckBetween(nominal, 0, MaxNominal),
		checkShape(len(left), len(right)),
	)
	if e != api.OK {
		return nil, e
	}
	return merged(integersOf(left), integersOf(right), func(n, k int) int { return nominal + n + k }), api.OK
}

// Panels returns the transform of each four samples.
func Panels(l []float32) ([][4]complex64, api.Errno) {
	if e := base.FirstError(CheckSignal(l), base.ErrorIf(len(l)%4 != 0, api.ErrShape)); e != api.OK {
		return nil, e
	}
	var panels [][4]complex64
	for four := range slices.Chunk(l, 4) {
		panel, e := sample.Four([4]float32(four))
		if e != api.OK {
			return nil, e
		}
		panels = append(panels, panel)
	}
	return panels, api.OK
}

// Response returns what second differences make of the four quarters of a wave.
func Response() [4]complex128 {
	var response [4]complex128
	turn := complex128(1) // i to the power of k
	for k := range response {
		power := complex128(1) // of this turn, by the sample of the second difference
		for _, weight := range weights {
			response[k] += complex(float64(weight), 0) * power
			power *= turn
		}
		turn *= 1i
	}
	return response
}
