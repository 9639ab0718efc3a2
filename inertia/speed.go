package inertia

import (
	"versine/api"
	"versine/base"
	"versine/sample"
)

// CheckSpeeds returns the first error of speeds, or OK.
func CheckSpeeds(l []int) api.Errno {
	if len(l) > api.MaxSamples {
		return api.ErrMany
	}
	return base.CheckEach(l, func(speed int) api.Errno { return base.CheckBetween(speed, 1, MaxSpeed) })
}

// Felt returns the accelerations at speeds.
func Felt(l []float32, speeds []int) ([]float32, api.Errno) {
	e := base.FirstError(CheckSignal(l), CheckSpeeds(speeds), checkLength(l), checkShape(len(speeds), len(l)-2))
	if e != api.OK {
		return nil, e
	}
	return signalOf(merged(bent(integersOf(l)), speeds, func(n, speed int) int { return n * speed * speed }))
}

// Freed returns the second differences of accelerations at speeds.
func Freed(l []float32, speeds []int) ([]float32, api.Errno) {
	e := base.FirstError(CheckSignal(l), CheckSpeeds(speeds), checkShape(len(speeds), len(l)))
	if e != api.OK {
		return nil, e
	}
	return signalOf(merged(integersOf(l), speeds, func(n, speed int) int { return base.Rounded(n, speed*speed) }))
}

// Rolled returns the cant of turning rates at speeds.
func Rolled(rates []float32, speeds []int, first float32) ([]float32, api.Errno) {
	e := base.FirstError(
		CheckSignal(rates),
		CheckSpeeds(speeds),
		sample.CheckSample(first),
		checkShape(len(speeds), len(rates)),
		base.ErrorIf(len(rates)+1 > api.MaxSamples, api.ErrMany),
	)
	if e != api.OK {
		return nil, e
	}
	cant := make([]int, len(rates)+1)
	cant[0] = base.IntegerOf(first)
	for i := range len(speeds) {
		cant[i+1] = cant[i] + base.Rounded(base.IntegerOf(rates[i]), speeds[i])
	}
	return signalOf(cant)
}
