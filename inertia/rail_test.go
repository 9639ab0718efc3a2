package inertia_test

import (
	"math"
	"testing"

	"versine/api"
	"versine/inertia"
)

func TestCant(t *testing.T) {
	for i, x := range []struct {
		left, right, want []float32
		e                 api.Errno
	}{
		{[]float32{1, 2}, []float32{4, 8}, []float32{3, 6}, api.OK},
		{[]float32{4, 8}, []float32{1, 2}, []float32{-3, -6}, api.OK},
		{nil, nil, nil, api.OK},
		{[]float32{minusZero, 0}, []float32{0, minusZero}, []float32{0, 0}, api.OK},
		{[]float32{1024, -1024}, []float32{1024, -1024}, []float32{0, 0}, api.OK},
		{[]float32{-512, 512}, []float32{512, -512}, []float32{1024, -1024}, api.OK},
		{signal(-8192), signal(8193), nil, api.ErrLarge},
		{signal(8192), signal(-8193), nil, api.ErrLarge},
		{signal(0, 0, 1), signal(0, 0, -16384), nil, api.ErrLarge},
		{constant[float32](1, 4096), constant[float32](3, 4096), constant[float32](2, 4096), api.OK},
	} {
		got, e := inertia.Cant(x.left, x.right)
		want(t, "Cant", list(i, got, e), list(i, x.want, x.e))
	}
	g := source(17)
	for range 1000 {
		n := g.IntN(6)
		a, b := someIntegers(g, n, 1+g.IntN(16384)), someIntegers(g, n, 1+g.IntN(16384))
		var wanted []int
		for k := range n {
			wanted = append(wanted, b[k]-a[k])
		}
		s, f := samplesOf(wanted)
		got, e := inertia.Cant(signal(a...), signal(b...))
		want(t, "Cant", list(a, b, got, e), list(a, b, s, f))
	}
}

func TestTwist(t *testing.T) {
	for i, x := range []struct {
		cant []float32
		base int
		want []float32
		e    api.Errno
	}{
		{[]float32{3, 6, 4, 9}, 2, []float32{1, 3}, api.OK},
		{[]float32{3, 6, 4, 9}, 1, []float32{3, -2, 5}, api.OK},
		{[]float32{3, 6, 4, 9}, 3, []float32{6}, api.OK},
		{[]float32{3, 6, 4, 9}, 4, nil, api.OK},
		{[]float32{3, 6, 4, 9}, 64, nil, api.OK},
		{[]float32{3, 6}, 2, nil, api.OK},
		{nil, 1, nil, api.OK},
		{nil, 64, nil, api.OK},
		{[]float32{0, minusZero}, 1, []float32{0}, api.OK},
		{[]float32{-512, 512, -512}, 1, []float32{1024, -1024}, api.OK},
		{signal(-8192, 8193), 1, nil, api.ErrLarge},
		{signal(8192, 0, -8193), 2, nil, api.ErrLarge},
		{signal(8192, 0, -8193), 3, nil, api.OK},
		{make([]float32, 4096), 64, make([]float32, 4032), api.OK},
		{make([]float32, 65), 64, []float32{0}, api.OK},
		{make([]float32, 64), 64, nil, api.OK},
		{[]float32{3, 6}, 0, nil, api.ErrRange},
		{[]float32{3, 6}, -1, nil, api.ErrRange},
		{[]float32{3, 6}, 65, nil, api.ErrRange},
		{[]float32{-1024, 1024}, 65, nil, api.ErrRange},
		{nil, 0, nil, api.ErrRange},
		{nil, math.MinInt, nil, api.ErrRange},
		{nil, math.MaxInt, nil, api.ErrRange},
	} {
		got, e := inertia.Twist(x.cant, x.base)
		want(t, "Twist", list(i, got, e), list(i, x.want, x.e))
	}
	g := source(18)
	for range 1000 {
		l, base := someIntegers(g, g.IntN(12), 1+g.IntN(16384)), between(g, 1, 8)
		var wanted []int
		for k := 0; k+base < len(l); k++ {
			wanted = append(wanted, l[k+base]-l[k])
		}
		s, f := samplesOf(wanted)
		got, e := inertia.Twist(signal(l...), base)
		want(t, "Twist", list(l, base, got, e), list(l, base, s, f))
	}
	for i, x := range badSignals() {
		for _, base := range []int{0, 1, 64, 65} {
			got, e := inertia.Twist(x.l, base)
			want(t, "Twist of a bad signal", list(i, got, e), list(i, []float32(nil), x.e))
		}
	}
}

func TestGauge(t *testing.T) {
	for i, x := range []struct {
		left, right []float32
		nominal     int
		want        []int
		e           api.Errno
	}{
		{[]float32{1, 2}, []float32{4, 8}, 1000, []int{1080, 1160}, api.OK},
		{nil, nil, 1000, nil, api.OK},
		{[]float32{minusZero}, []float32{0}, 0, []int{0}, api.OK},
		{[]float32{1024, -1024, 1024}, []float32{1024, -1024, -1024}, 16384, []int{49152, -16384, 16384}, api.OK},
		{[]float32{-1024}, []float32{-1024}, 0, []int{-32768}, api.OK},
		{signal(1, -1), signal(0, 0), 7, []int{8, 6}, api.OK},
		{constant[float32](1, 4096), constant[float32](-1, 4096), 3, constant(3, 4096), api.OK},
		{[]float32{1}, []float32{1}, -1, nil, api.ErrRange},
		{[]float32{1}, []float32{1}, 16385, nil, api.ErrRange},
		{[]float32{1}, []float32{1}, math.MinInt, nil, api.ErrRange},
		{[]float32{1}, []float32{1}, math.MaxInt, nil, api.ErrRange},
		// The nominal gauge is an argument, and so comes before the lengths.
		{[]float32{1}, nil, -1, nil, api.ErrRange},
		{[]float32{1}, nil, 16384, nil, api.ErrShape},
		{nil, []float32{1}, 0, nil, api.ErrShape},
		{[]float32{1}, []float32{nan}, -1, nil, api.ErrForm},
		{[]float32{2000}, []float32{nan}, -1, nil, api.ErrRange},
		{[]float32{nan}, []float32{2000}, -1, nil, api.ErrForm},
	} {
		got, e := inertia.Gauge(x.left, x.right, x.nominal)
		want(t, "Gauge", list(i, got, e), list(i, x.want, x.e))
	}
	g := source(19)
	for range 1000 {
		n, nominal := g.IntN(6), g.IntN(16385)
		a, b := someIntegers(g, n, 16384), someIntegers(g, n, 16384)
		var wanted []int
		for k := range n {
			wanted = append(wanted, nominal+a[k]+b[k])
		}
		got, e := inertia.Gauge(signal(a...), signal(b...), nominal)
		want(t, "Gauge", list(a, b, nominal, got, e), list(a, b, nominal, wanted, api.OK))
	}
}

func TestPanels(t *testing.T) {
	for i, x := range []struct {
		l    []float32
		want [][4]complex64
		e    api.Errno
	}{
		{[]float32{1, 0, -1, 0}, [][4]complex64{{0, 2, 0, 2}}, api.OK},
		{nil, nil, api.OK},
		{[]float32{1, 0, 0, 0}, [][4]complex64{{1, 1, 1, 1}}, api.OK},
		{[]float32{0, 1, 0, 0}, [][4]complex64{{1, -1i, -1, 1i}}, api.OK},
		{[]float32{0, 0, 1, 0}, [][4]complex64{{1, -1, 1, -1}}, api.OK},
		{[]float32{0, 0, 0, 1}, [][4]complex64{{1, 1i, -1, -1i}}, api.OK},
		{[]float32{1, 2, 3, 4, 0, minusZero, 0.0625, 0}, [][4]complex64{{10, -2 + 2i, -2, -2 - 2i}, {0.0625, -0.0625, 0.0625, -0.0625}}, api.OK},
		{constant[float32](1024, 4), [][4]complex64{{4096, 0, 0, 0}}, api.OK},
		{constant[float32](-1024, 4096), constant([4]complex64{-4096, 0, 0, 0}, 1024), api.OK},
		{[]float32{1}, nil, api.ErrShape},
		{[]float32{1, 0}, nil, api.ErrShape},
		{[]float32{1, 0, -1}, nil, api.ErrShape},
		{[]float32{1, 0, -1, 0, 5}, nil, api.ErrShape},
		{make([]float32, 4095), nil, api.ErrShape},
	} {
		got, e := inertia.Panels(x.l)
		want(t, "Panels", list(i, got, e), list(i, x.want, x.e))
	}
	for i, x := range badSignals() {
		got, e := inertia.Panels(x.l)
		want(t, "Panels of a bad signal", list(i, got, e), list(i, [][4]complex64(nil), x.e))
	}
	g := source(20)
	turns := [4][2]int{{1, 0}, {0, -1}, {-1, 0}, {0, 1}} // the powers of -i
	for range 500 {
		l := someIntegers(g, 4*g.IntN(4), 16384)
		var wanted [][4]complex64
		for at := 0; at < len(l); at += 4 {
			var panel [4]complex64
			for k := range panel {
				re, im := 0, 0
				for n := range 4 {
					re += l[at+n] * turns[k*n%4][0]
					im += l[at+n] * turns[k*n%4][1]
				}
				panel[k] = complex(float32(re)/16, float32(im)/16)
			}
			wanted = append(wanted, panel)
		}
		got, e := inertia.Panels(signal(l...))
		want(t, "Panels", list(l, got, e), list(l, wanted, api.OK))
	}
}

func TestResponse(t *testing.T) {
	want(t, "Response", list(inertia.Response()), list([4]complex128{0, -2i, 4, 2i}))
}
