package inertia_test

import (
	"slices"
	"testing"

	"versine/api"
	"versine/inertia"
)

func TestBent(t *testing.T) {
	for i, x := range []struct {
		l    []float32
		want []float32
		e    api.Errno
	}{
		{[]float32{0, 1, 4, 9, 16}, []float32{2, 2, 2}, api.OK},
		{[]float32{5, 7}, nil, api.OK},
		{[]float32{1024, -1024}, nil, api.OK},
		{[]float32{1, 0, 0}, []float32{1}, api.OK},
		{[]float32{0, 1, 0}, []float32{-2}, api.OK},
		{[]float32{0, 0, 1}, []float32{1}, api.OK},
		{[]float32{minusZero, minusZero, minusZero}, []float32{0}, api.OK},
		{signal(1, 0, 2, 5), signal(3, 1), api.OK},
		{[]float32{512, 0, 512}, []float32{1024}, api.OK},
		{[]float32{-512, 0, -512}, []float32{-1024}, api.OK},
		{signal(8192, 0, 8193), nil, api.ErrLarge},
		{signal(-8192, 0, -8193), nil, api.ErrLarge},
		{[]float32{0, 0, 0, 1024, -1024}, nil, api.ErrLarge},
		{[]float32{1024, -1024, 1024}, nil, api.ErrLarge},
		{constant[float32](1024, 4096), make([]float32, 4094), api.OK},
		{[]float32{1}, nil, api.ErrShort},
		{nil, nil, api.ErrShort},
	} {
		got, e := inertia.Bent(x.l)
		want(t, "Bent", list(i, got, e), list(i, x.want, x.e))
	}
	g := source(6)
	for range 2000 {
		l := someIntegers(g, between(g, 2, 9), 1+g.IntN(6000))
		var wanted []int
		for k := range len(l) - 2 {
			wanted = append(wanted, l[k]-2*l[k+1]+l[k+2])
		}
		s, f := samplesOf(wanted)
		got, e := inertia.Bent(signal(l...))
		want(t, "Bent", list(l, got, e), list(l, s, f))
	}
}

func TestDoubled(t *testing.T) {
	for i, x := range []struct {
		bends []float32
		first [2]float32
		want  []float32
		e     api.Errno
	}{
		{[]float32{2, 2, 2}, [2]float32{0, 1}, []float32{0, 1, 4, 9, 16}, api.OK},
		{[]float32{2, 2, 2}, [2]float32{5, 7}, []float32{5, 7, 11, 17, 25}, api.OK},
		{nil, [2]float32{5, 7}, []float32{5, 7}, api.OK},
		{nil, [2]float32{-1024, 1024}, []float32{-1024, 1024}, api.OK},
		{[]float32{0, minusZero}, [2]float32{minusZero, 0}, []float32{0, 0, 0, 0}, api.OK},
		{signal(1), [2]float32{}, signal(0, 0, 1), api.OK},
		{signal(-1, 0, 3), [2]float32{}, signal(0, 0, -1, -2, 0), api.OK},
		{[]float32{1000}, [2]float32{0, 12}, []float32{0, 12, 1024}, api.OK},
		{[]float32{-1000}, [2]float32{0, -12}, []float32{0, -12, -1024}, api.OK},
		{[]float32{1000}, [2]float32{0, 100}, nil, api.ErrLarge},
		{signal(16000), [2]float32(signal(-1, 192)), nil, api.ErrLarge},
		{signal(-16000), [2]float32(signal(1, -192)), nil, api.ErrLarge},
		// A sample that is too large stays an error, also if the ones behind it come back.
		{[]float32{1024, -1024, -1024, 0}, [2]float32{0, 512}, nil, api.ErrLarge},
		{make([]float32, 4094), [2]float32{7, 7}, constant[float32](7, 4096), api.OK},
		{make([]float32, 4095), [2]float32{7, 7}, nil, api.ErrMany},
		{constant[float32](1024, 4095), [2]float32{1024, -1024}, nil, api.ErrMany},
		{constant[float32](1024, 4094), [2]float32{-1024, 1024}, nil, api.ErrLarge},
		{make([]float32, 4096), [2]float32{0, 1}, nil, api.ErrMany},
	} {
		got, e := inertia.Doubled(x.bends, x.first)
		want(t, "Doubled", list(i, got, e), list(i, x.want, x.e))
	}
	g := source(7)
	for range 2000 {
		bends, ends := someIntegers(g, g.IntN(8), 1+g.IntN(1500)), someIntegers(g, 2, 1+g.IntN(3000))
		wanted := slices.Clone(ends)
		for _, n := range bends {
			k := len(wanted)
			wanted = append(wanted, 2*wanted[k-1]-wanted[k-2]+n)
		}
		s, f := samplesOf(wanted)
		got, e := inertia.Doubled(signal(bends...), [2]float32(signal(ends...)))
		want(t, "Doubled", list(bends, ends, got, e), list(bends, ends, s, f))
	}
}

func TestUndoubled(t *testing.T) {
	for i, x := range []struct {
		bends []float32
		last  [2]float32
		want  []float32
		e     api.Errno
	}{
		{[]float32{2, 2, 2}, [2]float32{9, 16}, []float32{0, 1, 4, 9, 16}, api.OK},
		{[]float32{1, 0, 0}, [2]float32{5, 5}, []float32{6, 5, 5, 5, 5}, api.OK},
		{[]float32{0, 0, 1}, [2]float32{5, 5}, []float32{8, 7, 6, 5, 5}, api.OK},
		{nil, [2]float32{5, 7}, []float32{5, 7}, api.OK},
		{nil, [2]float32{-1024, 1024}, []float32{-1024, 1024}, api.OK},
		{[]float32{0, minusZero}, [2]float32{minusZero, 0}, []float32{0, 0, 0, 0}, api.OK},
		{[]float32{1000}, [2]float32{12, 0}, []float32{1024, 12, 0}, api.OK},
		{[]float32{1000}, [2]float32{100, 0}, nil, api.ErrLarge},
		{signal(16000), [2]float32(signal(192, -1)), nil, api.ErrLarge},
		{signal(-16000), [2]float32(signal(-192, 1)), nil, api.ErrLarge},
		{[]float32{0, -1024, -1024, 1024}, [2]float32{512, 0}, nil, api.ErrLarge},
		{make([]float32, 4094), [2]float32{7, 7}, constant[float32](7, 4096), api.OK},
		{make([]float32, 4095), [2]float32{7, 7}, nil, api.ErrMany},
		{constant[float32](1024, 4095), [2]float32{1024, -1024}, nil, api.ErrMany},
		{make([]float32, 4096), [2]float32{0, 1}, nil, api.ErrMany},
	} {
		got, e := inertia.Undoubled(x.bends, x.last)
		want(t, "Undoubled", list(i, got, e), list(i, x.want, x.e))
	}
	g := source(8)
	for range 2000 {
		bends, ends := someIntegers(g, g.IntN(8), 1+g.IntN(1500)), someIntegers(g, 2, 1+g.IntN(3000))
		wanted := slices.Clone(ends)
		for k := len(bends) - 1; k >= 0; k-- {
			wanted = slices.Insert(wanted, 0, 2*wanted[0]-wanted[1]+bends[k])
		}
		s, f := samplesOf(wanted)
		got, e := inertia.Undoubled(signal(bends...), [2]float32(signal(ends...)))
		want(t, "Undoubled", list(bends, ends, got, e), list(bends, ends, s, f))
	}
}

func TestSumsOfBadArguments(t *testing.T) {
	for name, f := range map[string]func(bends []float32, ends [2]float32) ([]float32, api.Errno){
		"Doubled": inertia.Doubled, "Undoubled": inertia.Undoubled,
	} {
		for i, x := range badSignals() {
			for _, ends := range [][2]float32{{0, 0}, {nan, 0}, {0, 2000}} {
				got, e := f(x.l, ends)
				want(t, name+" of a bad signal", list(i, got, e), list(i, []float32(nil), x.e))
			}
		}
		for x, wanted := range badSamples() {
			for i, ends := range [][2]float32{{x, 0}, {0, x}} {
				for _, bends := range [][]float32{nil, {1}, make([]float32, 4096)} { // also before ErrMany
					got, e := f(bends, ends)
					want(t, name+" of a bad end", list(i, got, e), list(i, []float32(nil), wanted))
				}
			}
		}
		_, e := f(nil, [2]float32{nan, 2000})
		want(t, name+" of two bad ends", list(e), list(api.ErrForm))
		_, e = f(nil, [2]float32{2000, nan})
		want(t, name+" of two bad ends", list(e), list(api.ErrRange))
	}
}

func TestHalved(t *testing.T) {
	for i, x := range [][3][]float32{
		{{1, 0.0625}, {2, 0}, {1.5, 0.0625}},
		{nil, nil, nil},
		{signal(0, -1, 1, -3, 3, 2, -2), signal(-1, 0, 0, 0, 0, 0, 0), signal(0, 0, 1, -1, 2, 1, -1)},
		{{1024, -1024, 1024}, {1024, -1024, -1024}, {1024, -1024, 0}},
		{signal(16384, -16384), signal(16383, -16383), signal(16384, -16383)},
		{{minusZero}, {minusZero}, {0}},
		{constant[float32](3, 4096), constant[float32](1, 4096), constant[float32](2, 4096)},
	} {
		got, e := inertia.Halved(x[0], x[1])
		want(t, "Halved", list(i, got, e), list(i, x[2], api.OK))
		got, e = inertia.Halved(x[1], x[0])
		want(t, "Halved", list(i, got, e), list(i, x[2], api.OK))
	}
	g := source(9)
	for range 1000 {
		n := g.IntN(6)
		a, b := someIntegers(g, n, 16384), someIntegers(g, n, 16384)
		var wanted []int
		for k := range n {
			wanted = append(wanted, nearest(ratio(a[k]+b[k], 2)))
		}
		got, e := inertia.Halved(signal(a...), signal(b...))
		want(t, "Halved", list(a, b, got, e), list(a, b, signal(wanted...), api.OK))
	}
}
