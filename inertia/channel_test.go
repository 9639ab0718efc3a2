package inertia_test

import (
	"slices"
	"testing"

	"versine/api"
	"versine/inertia"
)

// left is the channel of the chapter's examples.
func left() inertia.Channel { return inertia.Channel{Name: "left", Offset: 1, Num: 3, Den: 2} }

// plain is a channel that changes nothing but the offset.
func plain(offset float32) inertia.Channel {
	return inertia.Channel{Name: "plain", Offset: offset, Num: 1, Den: 1}
}

func TestCheckChannel(t *testing.T) {
	for i, c := range []inertia.Channel{
		left(),
		plain(0),
		plain(minusZero),
		{Name: "A", Offset: 1024, Num: 1, Den: 1000},
		{Name: "a_3456789012345678901234", Offset: -1024, Num: 1000, Den: 1},
		{Name: "a", Offset: 0.0625, Num: 1000, Den: 1000},
		{Name: "a", Num: 2, Den: 4},
	} {
		want(t, "CheckChannel", list(i, inertia.CheckChannel(c)), list(i, api.OK))
	}
	for i, x := range badChannels() {
		want(t, "CheckChannel of a bad channel", list(i, inertia.CheckChannel(x.c)), list(i, x.e))
	}
}

func TestCheckSignal(t *testing.T) {
	for i, l := range [][]float32{
		nil,
		{},
		{0, minusZero},
		{1024, -1024, 0.0625, -0.0625, 1023.9375},
		make([]float32, 4096),
	} {
		want(t, "CheckSignal", list(i, inertia.CheckSignal(l)), list(i, api.OK))
	}
	for i, x := range badSignals() {
		want(t, "CheckSignal of a bad signal", list(i, inertia.CheckSignal(x.l)), list(i, x.e))
	}
}

func TestCorrected(t *testing.T) {
	for i, x := range []struct {
		c    inertia.Channel
		l    []float32
		want []float32
		e    api.Errno
	}{
		{left(), []float32{2, 3, 1}, []float32{1.5, 3, 0}, api.OK},
		{left(), nil, nil, api.OK},
		{plain(0), []float32{2, minusZero, -1024, 1024}, []float32{2, 0, -1024, 1024}, api.OK},
		{plain(minusZero), []float32{0, 1}, []float32{0, 1}, api.OK},
		{plain(-1), []float32{2, -1}, []float32{3, 0}, api.OK},
		// Halves of sixteenths go up, also below 0.
		{inertia.Channel{Name: "a", Num: 1, Den: 2}, signal(1, 3, -1, -3, 2, -2), signal(1, 2, 0, -1, 1, -1), api.OK},
		{inertia.Channel{Name: "a", Num: 2, Den: 3}, signal(1, 2, 3, -1, -2, -3), signal(1, 1, 2, -1, -1, -2), api.OK},
		{inertia.Channel{Name: "a", Num: 1, Den: 1000}, signal(499, 500, 1499, 1500, -500, -501, -1500, -1501), signal(0, 1, 1, 2, 0, -1, -1, -2), api.OK},
		{inertia.Channel{Name: "a", Num: 1000, Den: 1}, signal(16, -16), signal(16000, -16000), api.OK},
		{inertia.Channel{Name: "a", Num: 1000, Den: 1000}, signal(16384, -16384), signal(16384, -16384), api.OK},
		{inertia.Channel{Name: "a", Offset: 1024, Num: 1, Den: 2}, signal(-16384, 16384, 16383), signal(-16384, 0, 0), api.OK},
		{inertia.Channel{Name: "a", Offset: -1024, Num: 1, Den: 2}, signal(16384), signal(16384), api.OK},
		{plain(1.0 / 16), signal(-16383), signal(-16384), api.OK},
		{plain(1.0 / 16), signal(-16384), nil, api.ErrLarge},
		{plain(-1.0 / 16), signal(16383), signal(16384), api.OK},
		{plain(-1.0 / 16), signal(0, 16384, 0), nil, api.ErrLarge},
		{inertia.Channel{Name: "a", Num: 1000, Den: 999}, signal(16367), signal(16383), api.OK},
		{inertia.Channel{Name: "a", Num: 1000, Den: 999}, signal(16368), signal(16384), api.OK},
		{inertia.Channel{Name: "a", Num: 1000, Den: 999}, signal(16369), nil, api.ErrLarge},
		{inertia.Channel{Name: "a", Num: 1000, Den: 1}, []float32{2}, nil, api.ErrLarge},
		{inertia.Channel{Name: "a", Offset: 1024, Num: 1000, Den: 1}, []float32{-1024}, nil, api.ErrLarge},
	} {
		got, e := inertia.Corrected(x.c, x.l)
		want(t, "Corrected", list(i, got, e), list(i, x.want, x.e))
	}
	g := source(1)
	for range 3000 {
		offset := between(g, -16384, 16384)
		c := inertia.Channel{Name: "a", Offset: float32(offset) / 16, Num: between(g, 1, 1+g.IntN(1000)), Den: between(g, 1, 1+g.IntN(1000))}
		l := someIntegers(g, g.IntN(6), 16384)
		var wanted []int
		for _, n := range l {
			wanted = append(wanted, nearest(ratio((n-offset)*c.Num, c.Den)))
		}
		s, f := samplesOf(wanted)
		got, e := inertia.Corrected(c, signal(l...))
		want(t, "Corrected", list(c, l, got, e), list(c, l, s, f))
	}
}

func TestCorrectedOfBadArguments(t *testing.T) {
	for i, x := range badChannels() {
		for _, l := range [][]float32{{2}, {nan}, make([]float32, 4097)} {
			got, e := inertia.Corrected(x.c, l)
			want(t, "Corrected by a bad channel", list(i, got, e), list(i, []float32(nil), x.e))
		}
	}
	for i, x := range badSignals() {
		got, e := inertia.Corrected(inertia.Channel{Name: "a", Offset: 1024, Num: 1000, Den: 1}, x.l)
		want(t, "Corrected of a bad signal", list(i, got, e), list(i, []float32(nil), x.e))
	}
}

func TestTurned(t *testing.T) {
	for i, x := range [][2][]float32{
		{{1, 2, 3}, {-3, -2, -1}},
		{nil, nil},
		{{5}, {-5}},
		{{0, minusZero, 1}, {-1, 0, 0}},
		{{1024, -1024, 0.0625}, {-0.0625, 1024, -1024}},
		{constant[float32](7, 4096), constant[float32](-7, 4096)},
	} {
		got, e := inertia.Turned(x[0])
		want(t, "Turned", list(i, got, e), list(i, x[1], api.OK))
	}
	g := source(2)
	for range 500 {
		l := someIntegers(g, g.IntN(20), 16384)
		wanted := make([]int, len(l))
		for i, n := range l {
			wanted[len(l)-1-i] = -n
		}
		got, e := inertia.Turned(signal(l...))
		want(t, "Turned", list(l, got, e), list(l, signal(wanted...), api.OK))
	}
	for i, x := range badSignals() {
		got, e := inertia.Turned(x.l)
		want(t, "Turned of a bad signal", list(i, got, e), list(i, []float32(nil), x.e))
	}
}

func TestOffset(t *testing.T) {
	for i, x := range []struct {
		forward, backward []float32
		offset            float32
		e                 api.Errno
	}{
		{[]float32{3, 4, 1}, []float32{1, -2, -1}, 1, api.OK},
		{[]float32{5}, []float32{-5}, 0, api.OK},
		{[]float32{5}, []float32{5}, 5, api.OK},
		{[]float32{minusZero}, []float32{minusZero}, 0, api.OK},
		// From the middle to the greater one: 1/2, -1/2, 3/2 and -3/2 sixteenths, then a quarter and three quarters.
		{signal(1), signal(0), 1.0 / 16, api.OK},
		{signal(0), signal(-1), 0, api.OK},
		{signal(1), signal(2), 2.0 / 16, api.OK},
		{signal(-2), signal(-1), -1.0 / 16, api.OK},
		{signal(1, 0), signal(0, 0), 0, api.OK},
		{signal(1, 1), signal(1, 0), 1.0 / 16, api.OK},
		{signal(-1, 0), signal(0, 0), 0, api.OK},
		{signal(-1, -1), signal(0, -1), -1.0 / 16, api.OK},
		{constant[float32](1024, 4096), constant[float32](1024, 4096), 1024, api.OK},
		{constant[float32](-1024, 4096), constant[float32](-1024, 4096), -1024, api.OK},
		{[]float32{1}, []float32{1, 2}, 0, api.ErrShape},
		{[]float32{1, 2}, []float32{1}, 0, api.ErrShape},
		{nil, []float32{1}, 0, api.ErrShape},
		{[]float32{1}, nil, 0, api.ErrShape},
		{nil, nil, 0, api.ErrEmpty},
		{[]float32{}, nil, 0, api.ErrEmpty},
	} {
		offset, e := inertia.Offset(x.forward, x.backward)
		want(t, "Offset", list(i, offset, e), list(i, x.offset, x.e))
	}
	g := source(3)
	for range 2000 {
		n := between(g, 1, 8)
		a, b := someIntegers(g, n, 16384), someIntegers(g, n, 16384)
		sum := 0
		for _, x := range slices.Concat(a, b) {
			sum += x
		}
		offset, e := inertia.Offset(signal(a...), signal(b...))
		want(t, "Offset", list(a, b, offset, e), list(a, b, float32(nearest(ratio(sum, 2*n)))/16, api.OK))
	}
}

// pairFunctions are the functions of two signals, without their other arguments.
func pairFunctions() map[string]func(a, b []float32) (any, api.Errno) {
	return map[string]func(a, b []float32) (any, api.Errno){
		"Offset": func(a, b []float32) (any, api.Errno) { x, e := inertia.Offset(a, b); return x, e },
		"Halved": func(a, b []float32) (any, api.Errno) { x, e := inertia.Halved(a, b); return x, e },
		"Cant":   func(a, b []float32) (any, api.Errno) { x, e := inertia.Cant(a, b); return x, e },
		"Gauge":  func(a, b []float32) (any, api.Errno) { x, e := inertia.Gauge(a, b, 5); return x, e },
	}
}

// TestBadPairs checks of all functions of two signals that the first one's error is the first one, and that of different lengths the last one.
func TestBadPairs(t *testing.T) {
	for name, f := range pairFunctions() {
		for i, x := range badSignals() {
			for _, other := range [][]float32{nil, {1}, {1, 2}, {nan}, make([]float32, 4097)} {
				_, e := f(x.l, other)
				want(t, name+" of a bad signal", list(i, e), list(i, x.e))
			}
			for _, other := range [][]float32{nil, {1}, {1, 2}} {
				_, e := f(other, x.l)
				want(t, name+" with a bad signal", list(i, e), list(i, x.e))
			}
		}
		_, e := f([]float32{2000}, []float32{nan})
		want(t, name+" of two bad signals", list(e), list(api.ErrRange))
		for _, x := range [][2]int{{0, 1}, {1, 0}, {1, 2}, {2, 1}, {4095, 4096}, {4096, 4095}} {
			_, e := f(make([]float32, x[0]), make([]float32, x[1]))
			want(t, name+" of other lengths", list(x, e), list(x, api.ErrShape))
		}
	}
}
