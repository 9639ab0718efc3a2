package inertia_test

import (
	"testing"

	"versine/api"
	"versine/inertia"
)

func TestCheckSpeeds(t *testing.T) {
	for i, l := range [][]int{nil, {1, 100}, {50}, constant(100, 4096)} {
		want(t, "CheckSpeeds", list(i, inertia.CheckSpeeds(l)), list(i, api.OK))
	}
	for i, x := range badSpeedLists() {
		want(t, "CheckSpeeds of bad speeds", list(i, inertia.CheckSpeeds(x.l)), list(i, x.e))
	}
}

func TestFelt(t *testing.T) {
	for i, x := range []struct {
		l      []float32
		speeds []int
		want   []float32
		e      api.Errno
	}{
		{[]float32{0, 1, 4, 9, 16}, []int{1, 2, 3}, []float32{2, 8, 18}, api.OK},
		{[]float32{5, -7}, nil, nil, api.OK},
		{[]float32{0, minusZero, 0}, []int{100}, []float32{0}, api.OK},
		{signal(1, 0, 0), []int{100}, signal(10000), api.OK},
		{signal(0, 1, 0), []int{90}, signal(-16200), api.OK},
		{signal(0, 1, 0), []int{91}, nil, api.ErrLarge},
		{[]float32{4, 0, 0}, []int{16}, []float32{1024}, api.OK},
		{[]float32{-4, 0, 0}, []int{16}, []float32{-1024}, api.OK},
		{signal(64, 0, 1), []int{16}, nil, api.ErrLarge},
		{signal(-64, 0, -1), []int{16}, nil, api.ErrLarge},
		{[]float32{1024, -1024, 1024}, []int{1}, nil, api.ErrLarge},
		{[]float32{1024, -1024, 1024}, []int{100}, nil, api.ErrLarge},
		{[]float32{1, 1, 1, 1, 2}, []int{100, 100, 1}, []float32{0, 0, 1}, api.OK},
		{constant[float32](1024, 4096), constant(100, 4094), make([]float32, 4094), api.OK},
		// Too few samples, then a wrong number of speeds, then a result that is too large.
		{nil, nil, nil, api.ErrShort},
		{[]float32{1}, nil, nil, api.ErrShort},
		{[]float32{1}, []int{1, 2}, nil, api.ErrShort},
		{nil, []int{1}, nil, api.ErrShort},
		{[]float32{0, 1}, []int{1}, nil, api.ErrShape},
		{[]float32{0, 1, 4}, []int{1, 2}, nil, api.ErrShape},
		{[]float32{0, 1, 4}, nil, nil, api.ErrShape},
		{[]float32{0, 1024, 0}, []int{1, 1, 1}, nil, api.ErrShape},
		{make([]float32, 4096), constant(100, 4095), nil, api.ErrShape},
		{make([]float32, 4096), constant(100, 4096), nil, api.ErrShape},
	} {
		got, e := inertia.Felt(x.l, x.speeds)
		want(t, "Felt", list(i, got, e), list(i, x.want, x.e))
	}
	g := source(14)
	for range 2000 {
		l := someIntegers(g, between(g, 2, 7), 1+g.IntN(300))
		speeds := someSpeeds(g, len(l)-2, 1+g.IntN(20))
		var wanted []int
		for k, v := range speeds {
			wanted = append(wanted, (l[k]-2*l[k+1]+l[k+2])*v*v)
		}
		s, f := samplesOf(wanted)
		got, e := inertia.Felt(signal(l...), speeds)
		want(t, "Felt", list(l, speeds, got, e), list(l, speeds, s, f))
	}
}

func TestFreed(t *testing.T) {
	for i, x := range []struct {
		l      []float32
		speeds []int
		want   []float32
		e      api.Errno
	}{
		{[]float32{2, 8, 18}, []int{1, 2, 3}, []float32{2, 2, 2}, api.OK},
		{[]float32{0.3125}, []int{2}, []float32{0.0625}, api.OK},
		{nil, nil, nil, api.OK},
		{[]float32{minusZero, 1024, -1024}, []int{100, 1, 1}, []float32{0, 1024, -1024}, api.OK},
		// Divided by 4 and by 10000: halves go up, also below 0.
		{signal(1, 2, 3, -1, -2, -3, -6), []int{2, 2, 2, 2, 2, 2, 2}, signal(0, 1, 1, 0, 0, -1, -1), api.OK},
		{signal(4999, 5000, -5000, -5001, 15000, 14999, -15000), constant(100, 7), signal(0, 1, 0, -1, 2, 1, -1), api.OK},
		{signal(13, 14, -13, -14), []int{3, 3, 3, 3}, signal(1, 2, -1, -2), api.OK},
		{constant[float32](1024, 4096), constant(100, 4096), constant[float32](0.125, 4096), api.OK},
		{[]float32{1}, nil, nil, api.ErrShape},
		{nil, []int{1}, nil, api.ErrShape},
		{[]float32{1, 2}, []int{1}, nil, api.ErrShape},
		{[]float32{1, 2}, []int{1, 2, 3}, nil, api.ErrShape},
	} {
		got, e := inertia.Freed(x.l, x.speeds)
		want(t, "Freed", list(i, got, e), list(i, x.want, x.e))
	}
	g := source(15)
	for range 2000 {
		l := someIntegers(g, g.IntN(6), 16384)
		speeds := someSpeeds(g, len(l), 1+g.IntN(100))
		var wanted []int
		for k, v := range speeds {
			wanted = append(wanted, nearest(ratio(l[k], v*v)))
		}
		got, e := inertia.Freed(signal(l...), speeds)
		want(t, "Freed", list(l, speeds, got, e), list(l, speeds, signal(wanted...), api.OK))
	}
}

func TestRolled(t *testing.T) {
	for i, x := range []struct {
		rates  []float32
		speeds []int
		first  float32
		want   []float32
		e      api.Errno
	}{
		{[]float32{2, 6}, []int{1, 3}, 1, []float32{1, 3, 5}, api.OK},
		{nil, nil, 5, []float32{5}, api.OK},
		{nil, nil, minusZero, []float32{0}, api.OK},
		{nil, nil, -1024, []float32{-1024}, api.OK},
		// Each rate by its speed is rounded: halves go up, also below 0.
		{signal(1, 1, -1, -1), []int{2, 2, 2, 2}, 0, signal(0, 1, 2, 2, 2), api.OK},
		{signal(3, -3, 1, -1), []int{2, 2, 3, 3}, 0, signal(0, 2, 1, 1, 1), api.OK},
		{signal(49, 50, -50, -51), constant(100, 4), 0, signal(0, 0, 1, 1, 0), api.OK},
		{[]float32{24, -1024, -1024}, []int{1, 1, 1}, 1000, []float32{1000, 1024, 0, -1024}, api.OK},
		{signal(385), []int{1}, 1000, nil, api.ErrLarge},
		{signal(-385), []int{1}, -1000, nil, api.ErrLarge},
		{signal(385, -1000), []int{1, 1}, 1000, nil, api.ErrLarge},
		{make([]float32, 4095), constant(100, 4095), 7, constant[float32](7, 4096), api.OK},
		// A wrong number of speeds, then too many samples, then a result that is too large.
		{[]float32{1}, nil, 0, nil, api.ErrShape},
		{nil, []int{1}, 0, nil, api.ErrShape},
		{[]float32{1024, 1024}, []int{1}, 0, nil, api.ErrShape},
		{make([]float32, 4096), constant(100, 4095), 0, nil, api.ErrShape},
		{make([]float32, 4095), constant(100, 4096), 0, nil, api.ErrShape},
		{make([]float32, 4096), constant(100, 4096), 0, nil, api.ErrMany},
		{constant[float32](1024, 4096), constant(100, 4096), 1024, nil, api.ErrMany},
		{constant[float32](1024, 4095), constant(100, 4095), 1024, nil, api.ErrLarge},
	} {
		got, e := inertia.Rolled(x.rates, x.speeds, x.first)
		want(t, "Rolled", list(i, got, e), list(i, x.want, x.e))
	}
	g := source(16)
	for range 2000 {
		rates := someIntegers(g, g.IntN(8), 1+g.IntN(16384))
		speeds := someSpeeds(g, len(rates), 1+g.IntN(100))
		first := between(g, -16384, 16384)
		wanted := []int{first}
		for k, v := range speeds {
			wanted = append(wanted, nearest(ratio(wanted[k]*v+rates[k], v)))
		}
		s, f := samplesOf(wanted)
		got, e := inertia.Rolled(signal(rates...), speeds, float32(first)/16)
		want(t, "Rolled", list(rates, speeds, first, got, e), list(rates, speeds, first, s, f))
	}
}

// TestSpeedsOfBadArguments checks the order of the errors: the signal's, the speeds', and all others.
func TestSpeedsOfBadArguments(t *testing.T) {
	for name, f := range map[string]func(l []float32, speeds []int) ([]float32, api.Errno){
		"Felt":   inertia.Felt,
		"Freed":  inertia.Freed,
		"Rolled": func(l []float32, speeds []int) ([]float32, api.Errno) { return inertia.Rolled(l, speeds, 0) },
		"Rolled from NaN": func(l []float32, speeds []int) ([]float32, api.Errno) {
			return inertia.Rolled(l, speeds, nan)
		},
	} {
		for i, x := range badSignals() {
			for _, speeds := range [][]int{nil, {1}, {0}, constant(1, 4097)} {
				got, e := f(x.l, speeds)
				want(t, name+" of a bad signal", list(i, got, e), list(i, []float32(nil), x.e))
			}
		}
		for i, x := range badSpeedLists() {
			for _, l := range [][]float32{nil, {1}, make([]float32, 4096)} {
				got, e := f(l, x.l)
				want(t, name+" at bad speeds", list(i, got, e), list(i, []float32(nil), x.e))
			}
		}
	}
	for first, wanted := range badSamples() {
		for i, rates := range [][]float32{nil, {1}, {1024, 1024}, make([]float32, 4096)} {
			for _, n := range []int{0, 1, 2, 4096} { // also before ErrShape and ErrMany
				got, e := inertia.Rolled(rates, constant(1, n), first)
				want(t, "Rolled from a bad sample", list(i, n, got, e), list(i, n, []float32(nil), wanted))
			}
		}
	}
}
