package inertia_test

import (
	"math/big"
	"math/rand/v2"
	"slices"
	"testing"

	"versine/api"
	"versine/inertia"
)

func trend(level, levelDen, slope, slopeDen int) inertia.Trend {
	return inertia.Trend{Level: api.Ratio{Num: level, Den: levelDen}, Slope: api.Ratio{Num: slope, Den: slopeDen}}
}

// fit returns the level and the slope of the least squares line, as the solution of its two equations: the sum of n
// integers is n levels and S slopes, and the sum of each one times its index is S levels and Q slopes.
func fit(l []int) (level, slope *big.Rat) {
	n, s, q, sum, moment := len(l), 0, 0, 0, 0
	for i, x := range l {
		s += i
		q += i * i
		sum += x
		moment += i * x
	}
	level = determinant(sum, s, moment, q)
	slope = determinant(n, sum, s, moment)
	det := determinant(n, s, s, q)
	return level.Quo(level, det), slope.Quo(slope, det)
}

// determinant returns a d - b c.
func determinant(a, b, c, d int) *big.Rat {
	x := new(big.Rat).Mul(ratio(a, 1), ratio(d, 1))
	return x.Sub(x, new(big.Rat).Mul(ratio(b, 1), ratio(c, 1)))
}

// valueAt returns the value of a line at an index.
func valueAt(level, slope *big.Rat, i int) *big.Rat {
	x := new(big.Rat).Mul(slope, ratio(i, 1))
	return x.Add(x, level)
}

// told returns a ratio of api, and whether its numbers are not too large.
func told(x *big.Rat) (api.Ratio, bool) {
	const most = 999999999
	if !x.Num().IsInt64() || !x.Denom().IsInt64() {
		return api.Ratio{}, false
	}
	r := api.Ratio{Num: int(x.Num().Int64()), Den: int(x.Denom().Int64())}
	return r, -most <= r.Num && r.Num <= most && r.Den <= most
}

// trendOf returns the trend of integers, or ErrLarge.
func trendOf(l []int) (inertia.Trend, api.Errno) {
	level, slope := fit(l)
	a, isLevel := told(level)
	b, isSlope := told(slope)
	if !isLevel || !isSlope {
		return inertia.Trend{}, api.ErrLarge
	}
	return inertia.Trend{Level: a, Slope: b}, api.OK
}

// someLength returns a length of a signal from 2 on, rarely a long one.
func someLength(g *rand.Rand) int {
	if g.IntN(20) == 0 {
		return between(g, 2, 4096)
	}
	return between(g, 2, 12)
}

func TestFitted(t *testing.T) {
	for i, x := range []struct {
		l     []float32
		trend inertia.Trend
	}{
		{[]float32{0, 1, 4, 9}, trend(-16, 1, 48, 1)},
		{[]float32{0, 0, 1}, trend(-8, 3, 8, 1)},
		{[]float32{0, 0}, trend(0, 1, 0, 1)},
		{[]float32{minusZero, minusZero}, trend(0, 1, 0, 1)},
		{signal(5, 8), trend(5, 1, 3, 1)},
		{signal(5, 5, 5, 5), trend(5, 1, 0, 1)},
		{signal(1, 0, 1), trend(2, 3, 0, 1)},
		{signal(0, 1, 0, 0), trend(2, 5, -1, 10)},
		{signal(0, 0, 0, 1, 0, 0), trend(2, 21, 1, 35)},
		{signal(16384, -16384), trend(16384, 1, -32768, 1)},
		{constant[float32](-1024, 4096), trend(-16384, 1, 0, 1)},
	} {
		got, e := inertia.Fitted(x.l)
		want(t, "Fitted", list(i, got, e), list(i, x.trend, api.OK))
	}
	for _, n := range []int{900, 999, 1000, 1001, 1500, 2289, 2290, 4095, 4096} {
		for _, at := range []int{0, n / 2, n - 1} {
			l := make([]int, n)
			l[at] = 1
			wanted, f := trendOf(l)
			got, e := inertia.Fitted(signal(l...))
			want(t, "Fitted of a long signal", list(n, at, got, e), list(n, at, wanted, f))
		}
	}
	g := source(10)
	large := 0
	for range 3000 {
		l := someIntegers(g, someLength(g), 1+g.IntN(16384))
		wanted, f := trendOf(l)
		if f == api.ErrLarge {
			large++
		}
		got, e := inertia.Fitted(signal(l...))
		want(t, "Fitted", list(len(l), got, e), list(len(l), wanted, f))
	}
	if large < 20 || large > 200 {
		t.Error("the number of trends that are too large: ", large)
	}
}

// TestFittedOfLargeRatios checks that the numbers of both ratios are bounded: small integers have long slopes, and great ones long levels.
func TestFittedOfLargeRatios(t *testing.T) {
	g := source(11)
	count := map[[2]bool]int{}
	for i := range 2000 {
		l := someIntegers(g, between(g, 1700, 2600), 2)
		if i%2 == 0 {
			l = someIntegers(g, between(g, 200, 600), 1000)
			for k := range l {
				l[k] += 15000
			}
		}
		level, slope := fit(l)
		_, isLevel := told(level)
		_, isSlope := told(slope)
		count[[2]bool{isLevel, isSlope}]++
		wanted, f := trendOf(l)
		got, e := inertia.Fitted(signal(l...))
		want(t, "Fitted", list(len(l), got, e), list(len(l), wanted, f))
	}
	if count[[2]bool{true, true}] < 100 || count[[2]bool{true, false}] < 100 || count[[2]bool{false, true}] < 100 {
		t.Error("too few ratios of a kind: ", count)
	}
}

// TestFittedAtItsBound checks levels whose numerators are 999999999, the greatest one, and 1000000001, divided by 80200.
func TestFittedAtItsBound(t *testing.T) {
	for _, sign := range []int{1, -1} {
		l := constant(sign*12468, 400) // each one more at the index i adds 799 - 3 i to the numerator 999933600
		l[0] += sign * 83
		l[239] += sign
		got, e := inertia.Fitted(signal(l...))
		want(t, "Fitted at its bound", list(got.Level, e), list(api.Ratio{Num: sign * 999999999, Den: 80200}, api.OK))
		l[239] -= sign
		l[0] += sign
		l[372] += sign
		l[399] += sign
		got, e = inertia.Fitted(signal(l...))
		want(t, "Fitted above its bound", list(got, e), list(inertia.Trend{}, api.ErrLarge))
		level, _ := fit(l)
		want(t, "the level above the bound", list(level.String()), list(ratio(sign*1000000001, 80200).String()))
	}
}

func TestLeveled(t *testing.T) {
	for i, x := range []struct {
		l    []float32
		want []float32
		e    api.Errno
	}{
		{[]float32{0, 1, 4, 9}, []float32{1, -1, -1, 1}, api.OK},
		{[]float32{0, 0, 1}, signal(3, -5, 3), api.OK},
		{[]float32{5, 7}, []float32{0, 0}, api.OK},
		{[]float32{1024, -1024}, []float32{0, 0}, api.OK},
		{[]float32{0, minusZero, 0}, []float32{0, 0, 0}, api.OK},
		{[]float32{1, -1, -1, 1}, []float32{1, -1, -1, 1}, api.OK},
		{[]float32{1, 3, 5, 7, 9}, []float32{0, 0, 0, 0, 0}, api.OK},
		{constant[float32](-1024, 4096), make([]float32, 4096), api.OK},
		{signal(1, 1, 1), signal(0, 0, 0), api.OK},
		{signal(0, 1, 2), signal(0, 0, 0), api.OK},
		{signal(-1, -1), signal(0, 0), api.OK},
		// Halves go up: the differences from the level 1/2 are 1/2 and -1/2.
		{signal(1, 0, 0, 1), signal(1, 0, 0, 1), api.OK},
		{signal(0, 1, 1, 0), signal(0, 1, 1, 0), api.OK},
		// The slope -0.6 and the level 1.4 times 16384.
		{signal(16384, 16384, 16384, -16384), signal(-6554, 3277, 13107, -9830), api.OK},
	} {
		got, e := inertia.Leveled(x.l)
		want(t, "Leveled", list(i, got, e), list(i, x.want, x.e))
	}
}

// leveled returns integers less the values of their least squares line, rounded.
func leveled(l []int) []int {
	level, slope := fit(l)
	out := make([]int, len(l))
	for i, n := range l {
		out[i] = nearest(new(big.Rat).Sub(ratio(n, 1), valueAt(level, slope, i)))
	}
	return out
}

func TestLeveledByEquations(t *testing.T) {
	g := source(12)
	large := 0
	for range 1500 {
		l := someIntegers(g, someLength(g), 1+g.IntN(16384))
		if g.IntN(3) == 0 { // mostly at the ends, so that some results are too large
			for i := range l {
				l[i] = 16384 * (2*g.IntN(2) - 1)
			}
		}
		s, f := samplesOf(leveled(l))
		if f == api.ErrLarge {
			large++
		}
		got, e := inertia.Leveled(signal(l...))
		want(t, "Leveled", list(len(l), got, e), list(len(l), s, f))
	}
	if large < 50 {
		t.Error("too few results are too large: ", large)
	}
	// The trend of a signal may be too large for Fitted, and the leveled signal is there all the same.
	once := make([]int, 4096)
	once[7] = 101
	steep := make([]int, 4096)
	for i := range steep {
		steep[i] = i*8 - 16384 + i%2
	}
	for i, l := range [][]int{once, steep} {
		_, e := inertia.Fitted(signal(l...))
		got, f := inertia.Leveled(signal(l...))
		want(t, "Leveled of a long signal", list(i, e == api.ErrLarge, slices.Equal(integers(got), leveled(l)), f), list(i, i == 0, true, api.OK))
	}
}

func TestStraightened(t *testing.T) {
	for i, x := range []struct {
		l    []float32
		want []float32
		e    api.Errno
	}{
		{[]float32{0, 1, 4, 9}, []float32{0, -2, -2, 0}, api.OK},
		{[]float32{5, 7}, []float32{0, 0}, api.OK},
		{[]float32{-1024, 1024}, []float32{0, 0}, api.OK},
		{[]float32{minusZero, 0, minusZero}, []float32{0, 0, 0}, api.OK},
		// Halves go up, also below 0.
		{signal(0, 0, 1), signal(0, 0, 0), api.OK},
		{signal(0, 1, 1), signal(0, 1, 0), api.OK},
		{signal(0, 0, -1), signal(0, 1, 0), api.OK},
		{signal(0, -2, -1), signal(0, -1, 0), api.OK},
		{signal(1, 0, 0, 0), signal(0, -1, 0, 0), api.OK},
		{[]float32{1024, 0, 1024}, []float32{0, -1024, 0}, api.OK},
		{[]float32{-1024, 0, -1024}, []float32{0, 1024, 0}, api.OK},
		{signal(16384, -1, 16384), nil, api.ErrLarge},
		{signal(-16384, 1, -16384), nil, api.ErrLarge},
		{signal(-16384, 0, -16384, 0, 9, -16384), nil, api.ErrLarge},
		{signal(16384, -1, 16383), signal(0, -16384, 0), api.OK},
		{constant[float32](-1024, 4096), make([]float32, 4096), api.OK},
	} {
		got, e := inertia.Straightened(x.l)
		want(t, "Straightened", list(i, got, e), list(i, x.want, x.e))
	}
	g := source(13)
	for range 1500 {
		l := someIntegers(g, someLength(g), 1+g.IntN(16384))
		n, first, last := len(l), l[0], l[len(l)-1]
		var wanted []int
		for k, x := range l {
			wanted = append(wanted, nearest(ratio(x*(n-1)-first*(n-1-k)-last*k, n-1)))
		}
		s, f := samplesOf(wanted)
		got, e := inertia.Straightened(signal(l...))
		want(t, "Straightened", list(n, got, e), list(n, s, f))
	}
}

// TestLinesOfBadSignals checks the errors of all functions that a signal of at least 2 samples has.
func TestLinesOfBadSignals(t *testing.T) {
	for name, f := range map[string]func(l []float32) (any, api.Errno){
		"Bent":         func(l []float32) (any, api.Errno) { x, e := inertia.Bent(l); return len(x), e },
		"Fitted":       func(l []float32) (any, api.Errno) { x, e := inertia.Fitted(l); return x.Level.Den, e },
		"Leveled":      func(l []float32) (any, api.Errno) { x, e := inertia.Leveled(l); return len(x), e },
		"Straightened": func(l []float32) (any, api.Errno) { x, e := inertia.Straightened(l); return len(x), e },
	} {
		for i, x := range badSignals() {
			got, e := f(x.l)
			want(t, name+" of a bad signal", list(i, got, e), list(i, 0, x.e))
		}
		for i, l := range [][]float32{nil, {}, {0}, {1024}} {
			got, e := f(l)
			want(t, name+" of a short signal", list(i, got, e), list(i, 0, api.ErrShort))
		}
		for n := range 3 {
			_, e := f(make([]float32, n+2))
			want(t, name+" of a signal that is long enough", list(n, e), list(n, api.OK))
		}
	}
}
