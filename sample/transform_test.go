package sample_test

import (
	"math"
	"testing"

	"versine/api"
	"versine/sample"
)

// transformed is the transform of four integers, in Gaussian integers.
func transformed(l [4]int) [4]api.Gauss {
	return [4]api.Gauss{
		{Re: l[0] + l[1] + l[2] + l[3]},
		{Re: l[0] - l[2], Im: l[3] - l[1]},
		{Re: l[0] - l[1] + l[2] - l[3]},
		{Re: l[0] - l[2], Im: l[1] - l[3]},
	}
}

// panel returns numbers whose parts are these sixteenths.
func panel(l [4]api.Gauss) [4]complex64 {
	var p [4]complex64
	for k, z := range l {
		p[k] = complex(float32(z.Re)/16, float32(z.Im)/16)
	}
	return p
}

func TestTransforms(t *testing.T) {
	for i, x := range []struct {
		l [4]float32
		p [4]complex64
	}{
		{[4]float32{1, 2, 3, 4}, [4]complex64{10, -2 + 2i, -2, -2 - 2i}},
		{[4]float32{}, [4]complex64{}},
		{[4]float32{minusZero, minusZero, minusZero, minusZero}, [4]complex64{}},
		{[4]float32{1, 0, 0, 0}, [4]complex64{1, 1, 1, 1}},
		{[4]float32{0, 1, 0, 0}, [4]complex64{1, -1i, -1, 1i}},
		{[4]float32{0, 0, 1, 0}, [4]complex64{1, -1, 1, -1}},
		{[4]float32{0, 0, 0, 1}, [4]complex64{1, 1i, -1, -1i}},
		{[4]float32{1024, 1024, 1024, 1024}, [4]complex64{4096, 0, 0, 0}},
		{[4]float32{-1024, -1024, -1024, -1024}, [4]complex64{-4096, 0, 0, 0}},
		{[4]float32{1024, -1024, 1024, -1024}, [4]complex64{0, 0, 4096, 0}},
		{[4]float32{1024, -1024, -1024, 1024}, [4]complex64{0, 2048 + 2048i, 0, 2048 - 2048i}},
		{[4]float32{1023.9375, 1024, 1024, 1023.9375}, [4]complex64{4095.875, -0.0625 - 0.0625i, 0, -0.0625 + 0.0625i}},
	} {
		p, e := sample.Four(x.l)
		want(t, "Four", list(i, p, e), list(i, x.p, api.OK))
		l, e := sample.Unfour(x.p)
		want(t, "Unfour", list(i, l, e), list(i, x.l, api.OK))
	}
	g := source(4)
	for range 1000 {
		var n [4]int
		var l [4]float32
		for k := range n {
			n[k] = g.IntN(32769) - 16384
			l[k] = float32(n[k]) / 16
		}
		p, e := sample.Four(l)
		want(t, "Four", list(n, p, e), list(n, panel(transformed(n)), api.OK))
		back, e := sample.Unfour(p)
		want(t, "Unfour", list(n, back, e), list(n, l, api.OK))
	}
}

func TestFourErrors(t *testing.T) {
	for i, x := range []struct {
		l [4]float32
		e api.Errno
	}{
		{[4]float32{0, 0, 1025, 0}, api.ErrRange},
		{[4]float32{0, 0, 0, -1024.0625}, api.ErrRange},
		{[4]float32{0.03125, nan, 0, 0}, api.ErrRange},
		{[4]float32{nan, 0.03125, 0, 0}, api.ErrForm},
		{[4]float32{0, 0, 0, -infinite}, api.ErrForm},
		{[4]float32{0, infinite, 0, 0}, api.ErrForm},
	} {
		p, e := sample.Four(x.l)
		want(t, "Four", list(i, p, e), list(i, [4]complex64{}, x.e))
	}
}

func TestUnfourErrors(t *testing.T) {
	for i, x := range []struct {
		p [4]complex64
		e api.Errno
	}{
		{[4]complex64{4, 0, 0, 0}, api.OK},
		{[4]complex64{4096, 0, 0, 0}, api.OK},
		{[4]complex64{0, 0, -4096, 0}, api.OK},
		{[4]complex64{complex(minusZero, minusZero), 0, 0, complex(0, minusZero)}, api.OK},
		{[4]complex64{0.25, 0, 0, 0}, api.OK},
		{[4]complex64{0.0625, 0, 0, 0}, api.ErrForm},
		{[4]complex64{0.0625, 0.0625, 0.0625, 0.0625}, api.OK},
		{[4]complex64{4, 4i, 0, 0}, api.ErrForm},
		{[4]complex64{4, 4i, 0, 4i}, api.ErrForm},
		{[4]complex64{4, 4i, 0, -4i}, api.OK},
		{[4]complex64{4i, 0, 0, 0}, api.ErrForm},
		{[4]complex64{0, 0, 4i, 0}, api.ErrForm},
		{[4]complex64{4i, 0, -4i, 0}, api.ErrForm},
		{[4]complex64{0, 4, 0, 8}, api.ErrForm},
		{[4]complex64{4096, 4096, 0, 4096}, api.ErrForm}, // 3072, 1024, -1024, 1024
		{[4]complex64{-4096, -4096, -4096, -4096}, api.ErrForm},
		{[4]complex64{4096, 4096i, 0, -4096i}, api.ErrForm},
		{[4]complex64{4096, 0.25, 0, 0.25}, api.ErrForm}, // 1024 and an eighth
		{[4]complex64{4096.0625, 0, 0, 0}, api.ErrRange},
		{[4]complex64{-4096.0625, 0, 0, 0}, api.ErrRange},
		{[4]complex64{0, 0, 0, 4096.0625i}, api.ErrRange},
		{[4]complex64{0, 0, 0, -4096.0625i}, api.ErrRange},
		{[4]complex64{0, 0.03125, 0, 0.03125}, api.ErrRange},
		{[4]complex64{0, 0.03125i, 0, -0.03125i}, api.ErrRange},
		{[4]complex64{complex(5000, nan), 0, 0, 0}, api.ErrForm},
		{[4]complex64{complex(0.03125, infinite), 0, 0, 0}, api.ErrForm},
		{[4]complex64{complex(nan, 5000), 0, 0, 0}, api.ErrForm},
		{[4]complex64{0, 0, 0, complex(-infinite, 0)}, api.ErrForm},
		{[4]complex64{0, complex(0, nan), 0, 0}, api.ErrForm},
		{[4]complex64{complex(0, nan), 5000, 0, 0}, api.ErrForm},
		{[4]complex64{complex(nan, 0), 0, 0, 5000}, api.ErrForm},
		{[4]complex64{complex(infinite, 0), 0.03125, 0, 0}, api.ErrForm},
		{[4]complex64{5000, complex(0, nan), 0, 0}, api.ErrRange},
		{[4]complex64{5000i, complex(0, nan), 0, 0}, api.ErrRange},
		{[4]complex64{0.0625, 5000, 0, 0}, api.ErrRange},
		{[4]complex64{0.0625, 0, 0, complex(0, nan)}, api.ErrForm},
		{[4]complex64{math.MaxFloat32, 0, 0, 0}, api.ErrRange},
		{[4]complex64{math.SmallestNonzeroFloat32, 0, 0, 0}, api.ErrRange},
	} {
		l, e := sample.Unfour(x.p)
		want(t, "Unfour", list(i, e), list(i, x.e))
		if e != api.OK {
			want(t, "samples beside an error", list(i, l), list(i, [4]float32{}))
			continue
		}
		p, e := sample.Four(l)
		want(t, "Four of Unfour", list(i, p, e), list(i, x.p, api.OK))
	}
}

// TestSmallPanels checks for all panels with small parts that just the transforms are those of samples.
func TestSmallPanels(t *testing.T) {
	is := map[[4]complex64][4]float32{}
	for n := range 5 * 5 * 5 * 5 {
		l := [4]int{n%5 - 2, n/5%5 - 2, n/25%5 - 2, n/125 - 2}
		is[panel(transformed(l))] = [4]float32{float32(l[0]) / 16, float32(l[1]) / 16, float32(l[2]) / 16, float32(l[3]) / 16}
	}
	for n := range 3 * 3 * 3 * 3 * 3 * 3 * 3 * 3 {
		var q [8]int
		for k := range q {
			q[k] = n%3 - 1
			n /= 3
		}
		p := panel([4]api.Gauss{{Re: q[0], Im: q[1]}, {Re: q[2], Im: q[3]}, {Re: q[4], Im: q[5]}, {Re: q[6], Im: q[7]}})
		e := api.ErrForm
		l, isTransform := is[p]
		if isTransform {
			e = api.OK
		}
		got, e2 := sample.Unfour(p)
		want(t, "Unfour", list(p, got, e2), list(p, l, e))
	}
}
