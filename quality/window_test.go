package quality_test

import (
	"math"
	"math/big"
	"testing"

	"versine/api"
	"versine/quality"
	"versine/sample"
)

// TestCheckMoments checks moments without an error, and with each one.
func TestCheckMoments(t *testing.T) {
	for i, m := range []quality.Moments{
		{}, moments(1, 0, 0), moments(1, 5, 25), moments(1, -5, 25), moments(1, 5, 26), moments(2, 10, 50), moments(2, -10, 50), moments(2, 0, 7), moments(4096, 0, 0),
		moments(1, 16384, 1<<28), moments(1, -16384, 1<<28), moments(1, 0, 1<<28), moments(2, 32768, 1<<29), moments(4096, 1<<26, 1<<40), moments(4096, -(1 << 26), 1<<40), moments(4096, 0, 1<<40),
		moments(3, 1, 1), moments(3, 5, 9),
	} {
		want(t, "CheckMoments", list(i, quality.CheckMoments(m)), list(i, api.OK))
	}
	for i, b := range badMoments() {
		want(t, "CheckMoments", list(i, quality.CheckMoments(b.x)), list(i, b.e))
	}
}

// TestMomentsOf checks example 1, and the edges of spans.
func TestMomentsOf(t *testing.T) {
	holed := run(100, 16, none, 48, none)
	for i, x := range []struct {
		run    sample.Run
		places api.Span
		m      quality.Moments
	}{
		{shownRun(), span(100, 104), moments(4, 160, 7680)},
		{shownRun(), span(101, 104), moments(3, 144, 7424)},
		{shownRun(), span(100, 101), moments(1, 16, 256)},
		{shownRun(), span(103, 104), moments(1, 64, 4096)},
		{shownRun(), span(100, 100), moments(0, 0, 0)},
		{shownRun(), span(102, 102), moments(0, 0, 0)},
		{shownRun(), span(104, 104), moments(0, 0, 0)},
		{holed, span(100, 104), moments(2, 64, 2560)},
		{holed, span(101, 102), moments(0, 0, 0)},
		{holed, span(101, 103), moments(1, 48, 2304)},
		{run(7), span(7, 7), moments(0, 0, 0)},
		{run(0, -5, 3), span(0, 2), moments(2, -2, 34)},
		{run(api.MaxPlace-1, 3), span(api.MaxPlace-1, api.MaxPlace), moments(1, 3, 9)},
		{run(0, constant(-16384, 4096)...), span(0, 4096), moments(4096, -(1 << 26), 1<<40)},
	} {
		m, e := quality.MomentsOf(x.run, x.places)
		want(t, "MomentsOf", list(i, m, e), list(i, x.m, api.OK))
	}
	_, e := quality.MomentsOf(run(7), span(7, 8))
	want(t, "MomentsOf a place that an empty run does not have", list(e), list(api.ErrSpan))
	_, e = quality.MomentsOf(run(7), span(8, 8))
	want(t, "MomentsOf nothing behind an empty run", list(e), list(api.ErrSpan))
}

// TestMomentsByDefinition checks the moments of parts of runs against their places.
func TestMomentsByDefinition(t *testing.T) {
	g := source(1)
	for range 1000 {
		r := someRun(g, 60, 1<<g.IntN(15))
		from := g.IntN(len(r.Samples) + 1)
		to := between(g, from, len(r.Samples))
		var m quality.Moments
		for _, p := range placesOf(r)[from:to] {
			if p.isKnown {
				m = moments(m.Count+1, m.Sum+p.integer, m.Squares+p.integer*p.integer)
			}
		}
		got, e := quality.MomentsOf(r, span(r.First+from, r.First+to))
		want(t, "MomentsOf", list(r, from, to, got, e), list(r, from, to, m, api.OK))
		want(t, "CheckMoments of it", list(quality.CheckMoments(got)), list(api.OK))
	}
}

// TestVariance checks example 1, and variances in lowest terms.
func TestVariance(t *testing.T) {
	for i, x := range []struct {
		m quality.Moments
		v api.Ratio
	}{
		{moments(4, 160, 7680), ratio(320, 1)},
		{moments(3, 144, 7424), ratio(512, 3)},
		{moments(2, 10, 50), ratio(0, 1)},
		{moments(2, -10, 50), ratio(0, 1)},
		{moments(2, 1, 1), ratio(1, 4)},
		{moments(2, -1, 1), ratio(1, 4)},
		{moments(1, 5, 25), ratio(0, 1)},
		{moments(4096, 0, 0), ratio(0, 1)},
		{moments(4096, 0, 1<<40), ratio(1<<28, 1)},
		{moments(4096, 1, 1<<40), ratio(1<<52-1, 1<<24)}, // above api.MaxNumber
		{moments(3, 1, 1), ratio(2, 9)},
		{moments(6, 3, 3), ratio(1, 4)},
	} {
		v, e := quality.Variance(x.m)
		want(t, "Variance", list(i, v, e), list(i, x.v, api.OK))
	}
}

// varianceOf returns the variance of at least one integer: the mean of the squares of the differences to their mean.
func varianceOf(integers []int) *big.Rat {
	mean, n := new(big.Rat), whole(len(integers))
	for _, x := range integers {
		mean = plus(mean, by(whole(x), n))
	}
	variance := new(big.Rat)
	for _, x := range integers {
		d := minus(whole(x), mean)
		variance = plus(variance, by(times(d, d), n))
	}
	return variance
}

// TestVarianceByDefinition checks the variances of integers.
func TestVarianceByDefinition(t *testing.T) {
	g := source(2)
	for range 1000 {
		bound := 1 << g.IntN(15)
		l, m := make([]int, between(g, 1, 40)), quality.Moments{}
		for i := range l {
			l[i] = between(g, -bound, bound)
			m = moments(m.Count+1, m.Sum+l[i], m.Squares+l[i]*l[i])
		}
		v, e := quality.Variance(m)
		want(t, "Variance", list(l, v, e), list(l, ratioOf(varianceOf(l)), api.OK))
	}
}

// TestAdded checks the moments of both together.
func TestAdded(t *testing.T) {
	for i, x := range [][3]quality.Moments{
		{moments(1, 16, 256), moments(3, 144, 7424), moments(4, 160, 7680)},
		{moments(1, -16, 256), moments(3, 144, 7424), moments(4, 128, 7680)},
		{moments(0, 0, 0), moments(3, 144, 7424), moments(3, 144, 7424)},
		{moments(3, 144, 7424), moments(0, 0, 0), moments(3, 144, 7424)},
		{moments(2048, 1<<25, 1<<39), moments(2048, 1<<25, 1<<39), moments(4096, 1<<26, 1<<40)},
	} {
		m, e := quality.Added(x[0], x[1])
		want(t, "Added", list(i, m, e), list(i, x[2], api.OK))
	}
}

// TestWindows checks example 1, windows with holes, and what is left at the end.
func TestWindows(t *testing.T) {
	for i, x := range []struct {
		run         sample.Run
		size, limit int
		indices     []int
		worst, it   int
		e           api.Errno
		above       []api.Span
		asBadAsIt   []api.Span // above the worst index less 1
	}{
		{shownRun(), 2, 60, ints(64, 64), 0, 64, api.OK, []api.Span{span(100, 104)}, []api.Span{span(100, 104)}},
		{shownRun(), 2, 64, ints(64, 64), 0, 64, api.OK, nil, []api.Span{span(100, 104)}},
		{shownRun(), 2, 63, ints(64, 64), 0, 64, api.OK, []api.Span{span(100, 104)}, []api.Span{span(100, 104)}},
		{run(100, 16, 32, none, 64), 2, 0, ints(64, -1), 0, 64, api.OK, []api.Span{span(100, 102)}, []api.Span{span(100, 102)}},
		{run(100, 16, none, 48, 64), 2, 0, ints(-1, 64), 1, 64, api.OK, []api.Span{span(102, 104)}, []api.Span{span(102, 104)}},
		{shownRun(), 3, 0, ints(171), 0, 171, api.OK, []api.Span{span(100, 103)}, []api.Span{span(100, 103)}},
		{shownRun(), 4, 320, ints(320), 0, 320, api.OK, nil, []api.Span{span(100, 104)}},
		{run(100, 16, 32, 48, 64, 5), 4, 0, ints(320), 0, 320, api.OK, []api.Span{span(100, 104)}, []api.Span{span(100, 104)}},
		{shownRun(), 5, 0, nil, 0, 0, api.ErrNone, nil, nil},
		{shownRun(), 256, 0, nil, 0, 0, api.ErrNone, nil, nil},
		{run(5), 2, 0, nil, 0, 0, api.ErrNone, nil, nil},
		{run(5, none, 1, none, none, 2, none, 7), 2, 0, ints(-1, -1, -1), 0, 0, api.ErrNone, nil, nil},
		{run(5, 3, 3, none, 3, 4, 4), 2, 0, ints(0, -1, 0), 0, 0, api.OK, nil, nil},
		{run(5, none, 3, 4, 4, 4, 4), 2, 0, ints(-1, 0, 0), 1, 0, api.OK, nil, nil},
		{run(5, 0, 1, 0, 1), 2, 0, ints(0, 0), 0, 0, api.OK, nil, nil},
		{run(5, 0, 4, 0, 2, 0, 8, 1, 1, 0, 6, 9, 3), 2, 3, ints(4, 1, 16, 0, 9, 9), 2, 16, api.OK, []api.Span{span(5, 7), span(9, 11), span(13, 17)}, []api.Span{span(9, 11)}},
		{run(5, 0, 4, 0, 2, 0, 8, 1, 1, 0, 6, 9, 3), 2, 0, ints(4, 1, 16, 0, 9, 9), 2, 16, api.OK, []api.Span{span(5, 11), span(13, 17)}, []api.Span{span(9, 11)}},
		{run(0, 0, 8, 8, 0, none, 0, 0, 8), 2, 5, ints(16, 16, -1, 16), 0, 16, api.OK, []api.Span{span(0, 4), span(6, 8)}, []api.Span{span(0, 4), span(6, 8)}},
		{run(0, 16384, -16384, 16384, 16384), 2, 268435455, ints(1<<28, 0), 0, 1 << 28, api.OK, []api.Span{span(0, 2)}, []api.Span{span(0, 2)}},
		{run(0, 16384, -16384, 16384, 16384), 2, 268435456, ints(1<<28, 0), 0, 1 << 28, api.OK, nil, []api.Span{span(0, 2)}},
		{run(api.MaxPlace-2, 0, 4), 2, 0, ints(4), 0, 4, api.OK, []api.Span{span(api.MaxPlace-2, api.MaxPlace)}, []api.Span{span(api.MaxPlace-2, api.MaxPlace)}},
	} {
		l, e := quality.Indices(x.run, x.size)
		want(t, "Indices", list(i, l, e), list(i, x.indices, api.OK))
		worst, it, e := quality.Worst(x.run, x.size)
		want(t, "Worst", list(i, worst, it, e), list(i, x.worst, x.it, x.e))
		above, e := quality.Above(x.run, x.size, x.limit)
		want(t, "Above", list(i, above, e), list(i, x.above, api.OK))
		if x.it > 0 {
			above, e = quality.Above(x.run, x.size, x.it-1)
			want(t, "Above less than the worst index", list(i, above, e), list(i, x.asBadAsIt, api.OK))
		}
	}
}

// TestRoundedIndices checks that variances are rounded to the nearest integer, and halves up.
func TestRoundedIndices(t *testing.T) {
	for i, x := range []struct {
		integers []int
		index    int
	}{
		{ints(0, 1), 0},                   // 1/4
		{ints(0, 3), 2},                   // 9/4
		{ints(0, 0, 1, 2), 1},             // 11/16
		{ints(0, 0, 0, 1, 1, 1, 2, 2), 1}, // 39/64
		{ints(0, 0, 2, 2, 1, 1, 1, 1), 1}, // 1/2, to the greater one
		{ints(-9, -9, -7, -7, -8, -8, -8, -8), 1},
		{ints(0, 2, 1, 1, 0, 2, 2, 2, 2, 3), 1},
		{ints(0, 0, 0, 2, 2, 2, 4, 4), 2}, // 39/16
		{ints(0, 2, 1, 3, 3, 0, 0, 3), 2}, // 7/4
		{ints(1, 1, -1, 0, 0, 0), 0},      // 17/36
		{ints(0, 0, 0, 0, 3, 3, 3, 0), 2}, // 135/64
	} {
		l, e := quality.Indices(run(9, x.integers...), len(x.integers))
		want(t, "Indices", list(i, l, e), list(i, ints(x.index), api.OK))
	}
}

// indexOf returns the index of a window by its definition.
func indexOf(window []place) int {
	var integers []int
	for _, p := range window {
		if !p.isKnown {
			return -1
		}
		integers = append(integers, p.integer)
	}
	v := plus(varianceOf(integers), fraction(1, 2))
	return int(new(big.Int).Div(v.Num(), v.Denom()).Int64())
}

// TestWindowsByDefinition checks the indices of runs, the worst one, and the spans above limits, window by window.
func TestWindowsByDefinition(t *testing.T) {
	g := source(3)
	spans, holes := 0, 0
	for range 1000 {
		r, size := someRun(g, 120, 1<<g.IntN(15)), between(g, 2, 1<<between(g, 2, 5))
		var indices []int
		for from, l := 0, placesOf(r); from+size <= len(l); from += size {
			indices = append(indices, indexOf(l[from:from+size]))
		}
		l, e := quality.Indices(r, size)
		want(t, "Indices", list(r, size, l, e), list(r, size, indices, api.OK))

		worst, limit := 0, 0
		for i, index := range indices {
			if index > indices[worst] {
				worst = i
			}
			if index < 0 {
				holes++
			}
		}
		at, index, e := quality.Worst(r, size)
		if len(indices) == 0 || indices[worst] < 0 {
			want(t, "Worst", list(r, size, at, index, e), list(r, size, 0, 0, api.ErrNone))
		} else {
			want(t, "Worst", list(r, size, at, index, e), list(r, size, worst, indices[worst], api.OK))
			limit = max(indices[g.IntN(len(indices))]-g.IntN(2), 0)
		}

		var above []api.Span
		for i, index := range indices {
			switch k := len(above) - 1; {
			case index <= limit:
			case k >= 0 && above[k].To == r.First+i*size:
				above[k].To += size
			default:
				above = append(above, span(r.First+i*size, r.First+i*size+size))
			}
		}
		got, e := quality.Above(r, size, limit)
		want(t, "Above", list(r, size, limit, got, e), list(r, size, limit, above, api.OK))
		if len(got) > 1 {
			spans++
		}
	}
	if spans < 150 || holes < 500 {
		t.Errorf("too few windows: %v runs with several spans, %v windows with holes", spans, holes)
	}
}

// TestGreatestWindows checks windows of the greatest size with the greatest samples, and -0.
func TestGreatestWindows(t *testing.T) {
	integers := constant(16384, 4096)
	for i := range integers {
		if i%2 == 1 {
			integers[i] = -16384
		}
	}
	r := run(api.MaxPlace-4096, integers...)
	l, e := quality.Indices(r, 256)
	want(t, "Indices", list(l, e), list(constant(1<<28, 16), api.OK))
	l, e = quality.Indices(r, 2)
	want(t, "Indices", list(l, e), list(constant(1<<28, 2048), api.OK))
	l, e = quality.Indices(r, 255)
	want(t, "Indices of an odd size", list(l, e), list(constant(268431328, 16), api.OK)) // 2^28 less 2^28/255^2, which is 4128.18
	above, e := quality.Above(r, 256, 1<<28-1)
	want(t, "Above", list(above, e), list([]api.Span{span(api.MaxPlace-4096, api.MaxPlace)}, api.OK))
	m, e := quality.MomentsOf(r, span(api.MaxPlace-4096, api.MaxPlace))
	want(t, "MomentsOf", list(m, e), list(moments(4096, 0, 1<<40), api.OK))

	zero := sample.Run{Name: "z", Samples: []float32{minusZero, 0, float32(math.Copysign(0, -1)), 0.0625}, Holes: []api.Span{span(2, 3)}}
	l, e = quality.Indices(zero, 2)
	want(t, "Indices of -0", list(l, e), list(ints(0, -1), api.OK))
	m, e = quality.MomentsOf(zero, span(0, 4))
	want(t, "MomentsOf -0", list(m, e), list(moments(3, 1, 1), api.OK))
}
