package inertia

import (
	"slices"

	"versine/api"
	"versine/base"
	"versine/sample"
)

// CheckChannel returns the first error of a channel, or OK.
func CheckChannel(c Channel) api.Errno {
	return base.FirstError(
		base.ErrorIf(!sample.IsName(c.Name), api.ErrName),
		sample.CheckSample(c.Offset),
		base.CheckBetween(c.Num, 1, MaxScale),
		base.CheckBetween(c.Den, 1, MaxScale),
	)
}

// Corrected returns a signal without the offset, by the scale.
func Corrected(c Channel, l []float32) ([]float32, api.Errno) {
	if e := base.FirstError(CheckChannel(c), CheckSignal(l)); e != api.OK {
		return nil, e
	}
	offset := base.IntegerOf(c.Offset)
	return signalOf(base.Mapped(integersOf(l), func(n int) int {
		return base.Rounded((n-offset)*c.Num, c.Den)
	}))
}

// Turned returns the signal of a run in the other direction.
func Turned(l []float32) ([]float32, api.Errno) {
	if e := CheckSignal(l); e != api.OK {
		return nil, e
	}
	turned := base.Mapped(integersOf(l), func(n int) int { return -n })
	slices.Reverse(turned)
	return signalOf(turned)
}

// Offset returns the offset of a channel by a run in each direction.
func Offset(forward, backward []float32) (float32, api.Errno) {
	if e := base.FirstError(checkPair(forward, backward), base.ErrorIf(len(forward) == 0, api.ErrEmpty)); e != api.OK {
		return 0, e
	}
	sum := 0
	for _, n := range slices.Concat(integersOf(forward), integersOf(backward)) {
		sum += n
	}
	return base.SampleOf(base.Rounded(sum, len(forward)+len(backward))), api.OK
}
