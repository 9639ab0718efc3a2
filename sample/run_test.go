package sample_test

import (
	"math"
	"slices"
	"testing"

	"versine/api"
	"versine/sample"
)

func TestCheckRun(t *testing.T) {
	for i, r := range []sample.Run{
		shown(),
		run("r", 0, nil),
		run("r", api.MaxPlace, nil),
		run("r", api.MaxPlace-1, []float32{1}),
		run("r", api.MaxPlace-4096, make([]float32, 4096)),
		run("r", 0, []float32{1024, -1024, minusZero}),
		run("r", 0, []float32{0}, span(0, 1)),
		run("r", 0, []float32{minusZero, 1}, span(0, 1)),
		run("r", 0, []float32{0, 0, 0}, span(0, 3)),
		run("r", 0, []float32{0, 1, 0}, span(0, 1), span(2, 3)),
		run("r", 0, []float32{0, 0, 0}, span(0, 1), span(2, 3)),
		hidden("r", 0, 4096),
	} {
		want(t, "CheckRun of a run", list(i, sample.CheckRun(r)), list(i, api.OK))
	}
	for i, x := range badRuns() {
		want(t, "CheckRun of another one", list(i, sample.CheckRun(x.r)), list(i, x.e))
	}
}

// TestRunErrors checks that each function of runs returns the error of its run, also if another argument has one.
func TestRunErrors(t *testing.T) {
	for i, x := range badRuns() {
		var got []any
		add := func(l ...any) { got = append(got, l...) }
		add(sample.At(x.r, -1))
		add(sample.Known(x.r))
		add(sample.Cropped(x.r, span(0, 0)))
		add(sample.Reversed(x.r))
		add(sample.Joined(x.r, run("", 0, nil)))
		add(sample.Joined(run("a", api.MaxPlace, nil), x.r))
		add(sample.Sum(x.r, run("", 0, nil)))
		add(sample.Sum(run("a", 1, nil), x.r))
		add(sample.Scaled(x.r, 1001, 0))
		add(sample.Thinned(x.r, 0))
		add(sample.Filled(x.r, -1))
		add(sample.Energy(x.r))
		add(sample.Mean(x.r))
		none := sample.Run{}
		want(t, "errors of a run", list(i, got), list(i, list(
			float32(0), false, x.e, 0, x.e, none, x.e, none, x.e, none, x.e, none, x.e, none, x.e, none, x.e, none, x.e, none, x.e, none, x.e, 0, x.e, api.Ratio{}, x.e)))
	}
}

func TestAt(t *testing.T) {
	for _, x := range []struct {
		place int
		n     float32
		is    bool
		e     api.Errno
	}{
		{100, 1, true, api.OK},
		{101, 2, true, api.OK},
		{102, 0, false, api.OK},
		{103, 0, false, api.OK},
		{104, 5, true, api.OK},
		{99, 0, false, api.ErrUnknown},
		{105, 0, false, api.ErrUnknown},
		{0, 0, false, api.ErrUnknown},
		{-1, 0, false, api.ErrUnknown},
		{math.MinInt, 0, false, api.ErrUnknown},
		{math.MaxInt, 0, false, api.ErrUnknown},
	} {
		n, is, e := sample.At(shown(), x.place)
		want(t, "At", list(x.place, n, is, e), list(x.place, x.n, x.is, x.e))
	}
	for _, place := range []int{-1, 0, 5, 6} {
		n, is, e := sample.At(run("a", 5, nil), place)
		want(t, "At without samples", list(place, n, is, e), list(place, float32(0), false, api.ErrUnknown))
	}
	n, is, e := sample.At(run("a", api.MaxPlace-1, []float32{minusZero}), api.MaxPlace-1)
	want(t, "At the last place", list(n, is, e), list(float32(0), true, api.OK))
	n, is, e = sample.At(run("a", 0, []float32{-1024}), 0)
	want(t, "At the first place", list(n, is, e), list(float32(-1024), true, api.OK))
}

func TestCounts(t *testing.T) {
	for i, x := range []struct {
		r      sample.Run
		known  int
		energy int
		mean   api.Ratio
		e      api.Errno
	}{
		{shown(), 3, 7680, api.Ratio{Num: 8, Den: 3}, api.OK},
		{run("a", 0, nil), 0, 0, api.Ratio{}, api.ErrNone},
		{hidden("a", 0, 1), 0, 0, api.Ratio{}, api.ErrNone},
		{hidden("a", 0, 4096), 0, 0, api.Ratio{}, api.ErrNone},
		{made("a", 0, 0), 1, 0, api.Ratio{Num: 0, Den: 1}, api.OK},
		{run("a", 0, []float32{minusZero}), 1, 0, api.Ratio{Num: 0, Den: 1}, api.OK},
		{made("a", 0, 5, -5, unknown), 2, 50, api.Ratio{Num: 0, Den: 1}, api.OK},
		{made("a", 0, 1), 1, 1, api.Ratio{Num: 1, Den: 16}, api.OK},
		{made("a", 0, -1), 1, 1, api.Ratio{Num: -1, Den: 16}, api.OK},
		{made("a", 0, -1, unknown, -2, -3), 3, 14, api.Ratio{Num: -1, Den: 8}, api.OK},
		{made("a", 0, -16, -16, -8), 3, 576, api.Ratio{Num: -5, Den: 6}, api.OK},
		{made("a", 0, slices.Repeat([]int{16384}, 4096)...), 4096, 4096 * 16384 * 16384, api.Ratio{Num: 1024, Den: 1}, api.OK},
		{made("a", 0, slices.Repeat([]int{-16384}, 4096)...), 4096, 4096 * 16384 * 16384, api.Ratio{Num: -1024, Den: 1}, api.OK},
		{made("a", 0, append(slices.Repeat([]int{16384}, 4094), 16383)...), 4095, 4094*16384*16384 + 16383*16383, api.Ratio{Num: 4095*16384 - 1, Den: 4095 * 16}, api.OK},
	} {
		known, e1 := sample.Known(x.r)
		energy, e2 := sample.Energy(x.r)
		mean, e3 := sample.Mean(x.r)
		want(t, "Known, Energy, Mean", list(i, known, e1, energy, e2, mean, e3), list(i, x.known, api.OK, x.energy, api.OK, x.mean, x.e))
	}
}

func TestCropped(t *testing.T) {
	none := sample.Run{}
	for _, x := range []struct {
		from, to int
		r        sample.Run
		e        api.Errno
	}{
		{101, 103, run("r", 101, []float32{2, 0}, span(1, 2)), api.OK},
		{100, 105, shown(), api.OK},
		{102, 104, run("r", 102, []float32{0, 0}, span(0, 2)), api.OK},
		{103, 104, run("r", 103, []float32{0}, span(0, 1)), api.OK},
		{103, 105, run("r", 103, []float32{0, 5}, span(0, 1)), api.OK},
		{104, 105, run("r", 104, []float32{5}), api.OK},
		{100, 101, run("r", 100, []float32{1}), api.OK},
		{100, 102, run("r", 100, []float32{1, 2}), api.OK},
		{103, 103, none, api.ErrSpan},
		{104, 103, none, api.ErrSpan},
		{100, 100, none, api.ErrSpan},
		{105, 105, none, api.ErrSpan},
		{99, 103, none, api.ErrSpan},
		{99, 100, none, api.ErrSpan},
		{103, 106, none, api.ErrSpan},
		{105, 106, none, api.ErrSpan},
		{0, 1, none, api.ErrSpan},
		{math.MinInt, math.MaxInt, none, api.ErrSpan},
		{math.MaxInt, math.MinInt, none, api.ErrSpan},
		{math.MinInt, 101, none, api.ErrSpan},
		{101, math.MaxInt, none, api.ErrSpan},
	} {
		r, e := sample.Cropped(shown(), span(x.from, x.to))
		want(t, "Cropped", list(x.from, x.to, r, e), list(x.from, x.to, x.r, x.e))
	}
	r, e := sample.Cropped(run("a", 5, nil), span(5, 5))
	want(t, "Cropped without samples", list(r, e), list(none, api.ErrSpan))
	r, e = sample.Cropped(made("a", 0, unknown, 1, unknown, unknown, 2, unknown), span(1, 6))
	want(t, "Cropped with some holes", list(r, e), list(made("a", 1, 1, unknown, unknown, 2, unknown), api.OK))
	g := source(2)
	for range 300 {
		l := append(someIntegers(g, 12, 9), 1)
		from := g.IntN(len(l))
		to := from + 1 + g.IntN(len(l)-from)
		r, e := sample.Cropped(made("a", 50, l...), span(50+from, 50+to))
		want(t, "Cropped", list(l, from, to, r, e), list(l, from, to, made("a", 50+from, l[from:to]...), api.OK))
	}
}

func TestReversed(t *testing.T) {
	for i, x := range []struct{ r, back sample.Run }{
		{shown(), run("r", 100, []float32{5, 0, 0, 2, 1}, span(1, 3))},
		{run("a", 3, nil), run("a", 3, nil)},
		{hidden("a", 3, 4), hidden("a", 3, 4)},
		{made("a", 0, unknown, 1, unknown, unknown, 2, 3, unknown), made("a", 0, unknown, 3, 2, unknown, unknown, 1, unknown)},
		{made("a", 7, unknown, 1, 2), made("a", 7, 2, 1, unknown)},
		{run("a", 0, []float32{minusZero, 1}), run("a", 0, []float32{1, 0})},
	} {
		r, e := sample.Reversed(x.r)
		want(t, "Reversed", list(i, r, e), list(i, x.back, api.OK))
	}
}

func TestJoined(t *testing.T) {
	none := sample.Run{}
	for i, x := range []struct {
		a, b, r sample.Run
		e       api.Errno
	}{
		{shown(), run("s", 106, []float32{7}), run("r", 100, []float32{1, 2, 0, 0, 5, 0, 7}, span(2, 4), span(5, 6)), api.OK},
		{shown(), run("s", 105, []float32{7}), run("r", 100, []float32{1, 2, 0, 0, 5, 7}, span(2, 4)), api.OK},
		{made("a", 0, 1, unknown), made("b", 2, unknown, 2), made("a", 0, 1, unknown, unknown, 2), api.OK},
		{made("a", 0, 1, unknown), made("b", 3, unknown, 2), made("a", 0, 1, unknown, unknown, unknown, 2), api.OK},
		{made("a", 0, 1, unknown), made("b", 3, 2), made("a", 0, 1, unknown, unknown, 2), api.OK},
		{made("a", 0, 1), made("b", 2, unknown, 2), made("a", 0, 1, unknown, unknown, 2), api.OK},
		{hidden("a", 0, 2), hidden("b", 2, 3), hidden("a", 0, 5), api.OK},
		{run("a", 3, nil), run("b", 5, []float32{1}), run("a", 3, []float32{0, 0, 1}, span(0, 2)), api.OK},
		{run("a", 3, []float32{1}), run("b", 6, nil), run("a", 3, []float32{1, 0, 0}, span(1, 3)), api.OK},
		{run("a", 3, []float32{1}), run("b", 4, nil), run("a", 3, []float32{1}), api.OK},
		{run("a", 3, nil), run("b", 3, nil), run("a", 3, nil), api.OK},
		{run("a", 3, nil), run("b", 5, nil), hidden("a", 3, 2), api.OK},
		{run("a", 0, nil), run("b", 4096, nil), hidden("a", 0, 4096), api.OK},
		{run("a", 0, []float32{1}), run("b", 4095, []float32{2}), made("a", 0, append(append([]int{16}, slices.Repeat([]int{unknown}, 4094)...), 32)...), api.OK},
		{run("a", 0, []float32{1}), run("b", 4096, []float32{2}), none, api.ErrMany},
		{run("a", 0, nil), run("b", 4097, nil), none, api.ErrMany},
		{run("a", 0, nil), run("b", api.MaxPlace, nil), none, api.ErrMany},
		{run("a", 0, make([]float32, 4096)), run("b", 4096, []float32{1}), none, api.ErrMany},
		{run("a", api.MaxPlace, nil), run("b", api.MaxPlace, nil), run("a", api.MaxPlace, nil), api.OK},
		{run("a", api.MaxPlace-2, []float32{1}), run("b", api.MaxPlace-1, []float32{2}), run("a", api.MaxPlace-2, []float32{1, 2}), api.OK},
		{shown(), run("s", 104, nil), none, api.ErrOrder},
		{shown(), run("s", 0, nil), none, api.ErrOrder},
		{run("a", 9, nil), run("b", 8, nil), none, api.ErrOrder},
		{run("a", 9, nil), run("b", 8, make([]float32, 4096)), none, api.ErrOrder},
		{run("a", 100, make([]float32, 4096)), run("b", 200, make([]float32, 4096)), none, api.ErrOrder},
	} {
		r, e := sample.Joined(x.a, x.b)
		want(t, "Joined", list(i, r, e), list(i, x.r, x.e))
	}
}

func TestSum(t *testing.T) {
	none := sample.Run{}
	for i, x := range []struct {
		a, b, r sample.Run
		e       api.Errno
	}{
		{made("a", 5, 1, 2, unknown), made("b", 5, 10, unknown, 3), made("a", 5, 11, unknown, unknown), api.OK},
		{made("a", 5, 1, unknown, 3), made("b", 5, 10, unknown, -4), made("a", 5, 11, unknown, -1), api.OK},
		{made("a", 5, unknown, 1), made("b", 5, 1, unknown), hidden("a", 5, 2), api.OK},
		{run("a", 5, nil), run("b", 5, nil), run("a", 5, nil), api.OK},
		{run("a", 0, []float32{minusZero, 1}), run("b", 0, []float32{minusZero, -1}), made("a", 0, 0, 0), api.OK},
		{made("a", 0, 16384, -16384), made("b", 0, -16384, 16384), made("a", 0, 0, 0), api.OK},
		{made("a", 0, 16383, -16383), made("b", 0, 1, -1), made("a", 0, 16384, -16384), api.OK},
		{made("a", 0, 16384), made("b", 0, unknown), hidden("a", 0, 1), api.OK},
		{made("a", 0, 0, 16384), made("b", 0, 0, 1), none, api.ErrLarge},
		{made("a", 0, -16384), made("b", 0, -1), none, api.ErrLarge},
		{made("a", 0, 16384, unknown), made("b", 0, 16384, unknown), none, api.ErrLarge},
		{made("a", 5, 1), made("b", 6, 1), none, api.ErrShape},
		{made("a", 5, 1), run("b", 5, nil), none, api.ErrShape},
		{made("a", 5, 16384), made("b", 6, 16384), none, api.ErrShape},
		{made("a", 5, 16384), made("b", 5, 16384, 0), none, api.ErrShape},
		{made("a", 5, 1, 2), made("b", 6, 1), none, api.ErrShape},
	} {
		r, e := sample.Sum(x.a, x.b)
		want(t, "Sum", list(i, r, e), list(i, x.r, x.e))
	}
}

func TestScaled(t *testing.T) {
	none := sample.Run{}
	for i, x := range []struct {
		r        sample.Run
		num, den int
		s        sample.Run
		e        api.Errno
	}{
		{shown(), 1, 2, run("r", 100, []float32{0.5, 1, 0, 0, 2.5}, span(2, 4)), api.OK},
		{shown(), 1, 1, shown(), api.OK},
		{shown(), 0, 1000, run("r", 100, make([]float32, 5), span(2, 4)), api.OK},
		{shown(), -1000, 1000, run("r", 100, []float32{-1, -2, 0, 0, -5}, span(2, 4)), api.OK},
		{made("a", 0, 1, -1, 2, -2, 3, -3, unknown, 0), 1, 2, made("a", 0, 1, 0, 1, -1, 2, -1, unknown, 0), api.OK},
		{made("a", 0, 1, -1, 2, -2, 3, -3, unknown, 0), -1, 2, made("a", 0, 0, 1, -1, 1, -1, 2, unknown, 0), api.OK},
		{made("a", 0, 1, -1, 2, -2, 4, -4, 5, -5), 1, 3, made("a", 0, 0, 0, 1, -1, 1, -1, 2, -2), api.OK},
		{made("a", 0, 1, -1, 2, -2, 3, -3, 5, -5, 6, -6), 1, 4, made("a", 0, 0, 0, 1, 0, 1, -1, 1, -1, 2, -1), api.OK},
		{made("a", 0, 500, -500, 501, -501, 499, 1500, -1500), 1, 1000, made("a", 0, 1, 0, 1, -1, 0, 2, -1), api.OK},
		{made("a", 0, 16384, -16384), 1000, 1000, made("a", 0, 16384, -16384), api.OK},
		{made("a", 0, 16384, -16384), -1000, 1000, made("a", 0, -16384, 16384), api.OK},
		{made("a", 0, 16), 1000, 1, made("a", 0, 16000), api.OK},
		{made("a", 0, 10923), 3, 2, none, api.ErrLarge}, // 16384 and a half
		{made("a", 0, -10923), 3, 2, made("a", 0, -16384), api.OK},
		{made("a", 0, 0, 17), 1000, 1, none, api.ErrLarge},
		{made("a", 0, 16384), 1000, 999, none, api.ErrLarge},
		{made("a", 0, -16384), 1000, 999, none, api.ErrLarge},
		{made("a", 0, 16384), -1000, 1, none, api.ErrLarge},
		{run("a", 9, nil), 1000, 1, run("a", 9, nil), api.OK},
		{hidden("a", 9, 3), 1000, 1, hidden("a", 9, 3), api.OK},
		{run("a", 0, []float32{minusZero}), -1, 1, made("a", 0, 0), api.OK},
		{shown(), 1001, 1, none, api.ErrRange},
		{shown(), -1001, 1, none, api.ErrRange},
		{shown(), math.MinInt, 1, none, api.ErrRange},
		{shown(), math.MaxInt, 1, none, api.ErrRange},
		{shown(), 1, 0, none, api.ErrRange},
		{shown(), 1, -1, none, api.ErrRange},
		{shown(), 1, 1001, none, api.ErrRange},
		{shown(), 1, math.MinInt, none, api.ErrRange},
		{made("a", 0, 16384), 1000, 1001, none, api.ErrRange},
	} {
		s, e := sample.Scaled(x.r, x.num, x.den)
		want(t, "Scaled", list(i, s, e), list(i, x.s, x.e))
	}
	g := source(3)
	for range 300 {
		l := someIntegers(g, 6, 16384)
		den := 1 + g.IntN(1000)
		num := g.IntN(2*den+1) - den
		var scaled []int
		for _, n := range l {
			if n != unknown {
				n = nearest(n*num, den)
			}
			scaled = append(scaled, n)
		}
		s, e := sample.Scaled(made("a", 8, l...), num, den)
		want(t, "Scaled", list(l, num, den, s, e), list(l, num, den, made("a", 8, scaled...), api.OK))
	}
}

func TestThinned(t *testing.T) {
	none := sample.Run{}
	for i, x := range []struct {
		r    sample.Run
		step int
		s    sample.Run
		e    api.Errno
	}{
		{shown(), 1, shown(), api.OK},
		{shown(), 2, run("r", 50, []float32{1, 0, 5}, span(1, 2)), api.OK},
		{shown(), 4, run("r", 25, []float32{1, 5}), api.OK},
		{shown(), 5, run("r", 20, []float32{1}), api.OK},
		{shown(), 50, run("r", 2, []float32{1}), api.OK},
		{made("a", 0, unknown, 1, unknown, 2, unknown), 2, hidden("a", 0, 3), api.OK},
		{made("a", 0, unknown, 1, unknown, 2, unknown, unknown), 3, made("a", 0, unknown, 2), api.OK},
		{made("a", 0, 1, 2, 3, 4, 5, 6, 7), 3, made("a", 0, 1, 4, 7), api.OK},
		{made("a", 6, 1, 2, 3, 4, 5, 6), 3, made("a", 2, 1, 4), api.OK},
		{run("a", 64, nil), 64, run("a", 1, nil), api.OK},
		{run("a", 0, make([]float32, 65)), 64, made("a", 0, 0, 0), api.OK},
		{run("a", 0, make([]float32, 64)), 64, made("a", 0, 0), api.OK},
		{run("a", api.MaxPlace, nil), 64, run("a", api.MaxPlace/64, nil), api.OK},
		{shown(), 3, none, api.ErrRule},
		{shown(), 64, none, api.ErrRule},
		{run("a", 63, nil), 64, none, api.ErrRule},
		{run("a", 1, nil), 2, none, api.ErrRule},
		{shown(), 0, none, api.ErrRange},
		{shown(), -1, none, api.ErrRange},
		{shown(), -2, none, api.ErrRange},
		{shown(), 65, none, api.ErrRange},
		{shown(), 100, none, api.ErrRange},
		{shown(), math.MinInt, none, api.ErrRange},
		{shown(), math.MaxInt, none, api.ErrRange},
	} {
		s, e := sample.Thinned(x.r, x.step)
		want(t, "Thinned", list(i, s, e), list(i, x.s, x.e))
	}
}

func TestFilled(t *testing.T) {
	none := sample.Run{}
	ends := made("a", 0, unknown, 1, unknown, 3, unknown)
	for i, x := range []struct {
		r    sample.Run
		most int
		s    sample.Run
		e    api.Errno
	}{
		{shown(), 2, run("r", 100, []float32{1, 2, 3, 4, 5}), api.OK},
		{shown(), 1, shown(), api.OK},
		{shown(), 0, shown(), api.OK},
		{shown(), 4096, run("r", 100, []float32{1, 2, 3, 4, 5}), api.OK},
		{ends, 0, ends, api.OK},
		{ends, 1, made("a", 0, unknown, 1, 2, 3, unknown), api.OK},
		{ends, 4096, made("a", 0, unknown, 1, 2, 3, unknown), api.OK},
		{made("a", 0, 4, unknown, 8, unknown, unknown, 2, unknown, 0), 1, made("a", 0, 4, 6, 8, unknown, unknown, 2, 1, 0), api.OK},
		{made("a", 0, 4, unknown, 8, unknown, unknown, 2, unknown, 0), 2, made("a", 0, 4, 6, 8, 6, 4, 2, 1, 0), api.OK},
		{made("a", 0, 1, unknown, 2), 1, made("a", 0, 1, 2, 2), api.OK},
		{made("a", 0, 2, unknown, 1), 1, made("a", 0, 2, 2, 1), api.OK},
		{made("a", 0, -1, unknown, -2), 1, made("a", 0, -1, -1, -2), api.OK},
		{made("a", 0, -2, unknown, -1), 1, made("a", 0, -2, -1, -1), api.OK},
		{made("a", 0, -1, unknown, 0), 1, made("a", 0, -1, 0, 0), api.OK},
		{made("a", 0, 0, unknown, unknown, unknown, 2), 3, made("a", 0, 0, 1, 1, 2, 2), api.OK},
		{made("a", 0, 0, unknown, unknown, unknown, -2), 3, made("a", 0, 0, 0, -1, -1, -2), api.OK},
		{made("a", 0, 16384, unknown, -16384), 1, made("a", 0, 16384, 0, -16384), api.OK},
		{run("a", 4, nil), 4096, run("a", 4, nil), api.OK},
		{hidden("a", 4, 4), 4096, hidden("a", 4, 4), api.OK},
		{made("a", 4, unknown, 1), 4096, made("a", 4, unknown, 1), api.OK},
		{made("a", 4, 1, unknown), 4096, made("a", 4, 1, unknown), api.OK},
		{shown(), -1, none, api.ErrRange},
		{shown(), 4097, none, api.ErrRange},
		{shown(), math.MinInt, none, api.ErrRange},
		{shown(), math.MaxInt, none, api.ErrRange},
	} {
		s, e := sample.Filled(x.r, x.most)
		want(t, "Filled", list(i, s, e), list(i, x.s, x.e))
	}
	long := made("a", 0, append(append([]int{-16384}, slices.Repeat([]int{unknown}, 4094)...), 16384)...)
	s, e := sample.Filled(long, 4093)
	want(t, "Filled below a long hole", list(s, e), list(long, api.OK))
	var line []int
	for i := range 4096 {
		line = append(line, nearest(-16384*4095+32768*i, 4095))
	}
	s, e = sample.Filled(long, 4094)
	want(t, "Filled with a long hole", list(s, e), list(made("a", 0, line...), api.OK))
}
