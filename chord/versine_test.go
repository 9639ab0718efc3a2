package chord_test

import (
	"math"
	"testing"

	"versine/api"
	"versine/chord"
)

func TestVersines(t *testing.T) {
	const most = 1 << 30
	for i, x := range []struct {
		c chord.Chord
		t chord.Trace
		v chord.Trace
		e api.Errno
	}{
		{arms(1, 2), squares(), made(11, -6, -6, -6), api.OK},
		{arms(2, 1), squares(), made(12, -6, -6, -6), api.OK},
		{arms(2, 2), squares(), made(12, -16, -16), api.OK},
		{arms(1, 4), squares(), made(11, -20), api.OK},
		{arms(4, 1), squares(), made(14, -20), api.OK},
		{arms(1, 2), torn(), made(11, -6, unknown, unknown), api.OK},
		{arms(1, 1), made(0, unknown, 1, 2, 4, unknown), made(1, unknown, -1, unknown), api.OK},
		{arms(2, 2), made(0, 1, unknown, 2, unknown, 5), made(2, -4), api.OK},
		{arms(1, 1), made(0, unknown, unknown, unknown), made(1, unknown), api.OK},
		{arms(1, 1), made(api.MaxPlace-3, 1, 2, 4), made(api.MaxPlace-2, -1), api.OK},
		{arms(1, 1), made(0, 1, 2, 4), made(1, -1), api.OK},
		{arms(3, 3), squares(), chord.Trace{}, api.ErrShort},
		{arms(5, 1), squares(), chord.Trace{}, api.ErrShort},
		{arms(1, 1), made(0), chord.Trace{}, api.ErrShort},
		{arms(1, 1), made(0, most, most), chord.Trace{}, api.ErrShort},
		{arms(32, 32), made(0, constant(most, 64)...), chord.Trace{}, api.ErrShort},
		{arms(32, 32), made(0, constant(most, 65)...), made(32, 0), api.OK},
		{arms(32, 32), made(0, append(constant(0, 64), 1<<25)...), made(32, -most), api.OK},
		{arms(32, 32), made(0, append(constant(0, 64), -1<<25)...), made(32, most), api.OK},
		{arms(32, 32), made(0, append(constant(0, 64), 1<<25+1)...), chord.Trace{}, api.ErrLarge},
		{arms(31, 32), made(0, append([]int{1 << 25}, constant(0, 63)...)...), made(31, -most), api.OK},
		{arms(1, 1), made(0, 0, most/2, 0), made(1, most), api.OK},
		{arms(1, 1), made(0, -1, most/2, 0), chord.Trace{}, api.ErrLarge},
		{arms(1, 1), made(0, 0, -most/2, 0), made(1, -most), api.OK},
		{arms(1, 1), made(0, 1, -most/2, 0), chord.Trace{}, api.ErrLarge},
		{arms(1, 1), made(0, 0, 0, 0, most, 0), chord.Trace{}, api.ErrLarge},
		{arms(1, 1), made(0, 0, 0, 0, most, unknown), made(1, 0, -most, unknown), api.OK},
		{arms(1, 1), made(0, unknown, most, -most, unknown), made(1, unknown, unknown), api.OK},
	} {
		v, e := chord.Versines(x.c, x.t)
		want(t, "Versines", list(i, v, e), list(i, x.v, x.e))
	}
	g := source(2)
	for range 3000 {
		c, x := someChord(g, 1+g.IntN(6)), someTrace(g, 20)
		v, e := chord.Versines(c, x)
		wanted, f := weighed(x, versineWeights(c))
		want(t, "Versines", list(c, x, v, e), list(c, x, wanted, f))
	}
}

// TestFullTraces checks traces of as many values, and chords of as long arms as there may be.
func TestFullTraces(t *testing.T) {
	g := source(3)
	for _, c := range []chord.Chord{arms(32, 32), arms(1, 32), arms(32, 1), arms(17, 32)} {
		x := made(api.MaxPlace-4096, someValues(g, 4096, 1000, 300)...)
		v, e := chord.Versines(c, x)
		wanted, f := weighed(x, versineWeights(c))
		want(t, "Versines", list(c, v, e), list(c, wanted, f))
		v, e = chord.Weighted(c, x)
		wanted, f = weighed(x, weightsOf(c, 1))
		want(t, "Weighted", list(c, v, e), list(c, wanted, f))
		v, e = chord.Lengthened(c, 32, x)
		wanted, f = weighed(x, weightsOf(c, 32))
		want(t, "Lengthened", list(c, v, e), list(c, wanted, f))
	}
}

func TestCurvature(t *testing.T) {
	for i, x := range []struct {
		t, k chord.Trace
		e    api.Errno
	}{
		{squares(), made(11, -2, -2, -2, -2), api.OK},
		{torn(), made(11, unknown, unknown, unknown, -2), api.OK},
		{made(0, 1, 5, 1), made(1, 8), api.OK},
		{made(0, 1, 2), chord.Trace{}, api.ErrShort},
		{made(0), chord.Trace{}, api.ErrShort},
		{made(0, 0, 1<<29+1, 0), chord.Trace{}, api.ErrLarge},
	} {
		k, e := chord.Curvature(x.t)
		want(t, "Curvature", list(i, k, e), list(i, x.k, x.e))
	}
	for i, x := range badTraces() {
		k, e := chord.Curvature(x.t)
		want(t, "Curvature of a bad trace", list(i, k, e), list(i, chord.Trace{}, x.e))
	}
}

func TestWeights(t *testing.T) {
	for i, x := range []struct {
		c chord.Chord
		l []int
	}{
		{arms(1, 1), []int{1}},
		{arms(1, 2), []int{2, 1}},
		{arms(2, 1), []int{1, 2}},
		{arms(2, 2), []int{2, 4, 2}},
		{arms(3, 2), []int{2, 4, 6, 3}},
		{arms(1, 4), []int{4, 3, 2, 1}},
	} {
		l, e := chord.Weights(x.c)
		want(t, "Weights", list(i, l, e), list(i, x.l, api.OK))
	}
	for before := range 34 {
		for after := range 34 {
			c := arms(before, after)
			l, e := chord.Weights(c)
			var wanted []int
			f := chord.CheckChord(c)
			for k := 1 - before; k <= after-1 && f == api.OK; k++ {
				wanted = append(wanted, weightsOf(c, 1)[k])
			}
			want(t, "Weights", list(c, l, e), list(c, wanted, f))
		}
	}
}

func TestWeighted(t *testing.T) {
	const most = 1 << 30
	for i, x := range []struct {
		c chord.Chord
		k chord.Trace
		v chord.Trace
		e api.Errno
	}{
		{arms(1, 2), made(11, -2, -2, -2, -2), made(11, -6, -6, -6), api.OK},
		{arms(2, 1), made(11, -2, -2, -2, -2), made(12, -6, -6, -6), api.OK},
		{arms(1, 2), made(0, 1, 10, 100), made(0, 12, 120), api.OK},
		{arms(2, 1), made(0, 1, 10, 100), made(1, 21, 210), api.OK},
		{arms(1, 1), made(api.MaxPlace-2, most, -most), made(api.MaxPlace-2, most, -most), api.OK},
		{arms(1, 1), made(3, unknown, 4, unknown), made(3, unknown, 4, unknown), api.OK},
		{arms(2, 2), made(0, unknown, 1, 2, 3, 4, unknown), made(1, unknown, 16, 24, unknown), api.OK},
		{arms(1, 2), made(0, most, -most), made(0, most), api.OK},
		{arms(1, 2), made(0, most/2, 1), chord.Trace{}, api.ErrLarge},
		{arms(1, 2), made(0, most/2, 1, unknown), chord.Trace{}, api.ErrLarge},
		{arms(1, 2), made(0, most/2, unknown, 1, 1), made(0, unknown, unknown, 3), api.OK},
		{arms(1, 1), made(0), chord.Trace{}, api.ErrShort},
		{arms(4, 4), made(0, 1, 2, 3, 4, 5, 6), chord.Trace{}, api.ErrShort},
		{arms(4, 4), made(0, 1, 2, 3, 4, 5, 6, 7), made(3, 256), api.OK},
		{arms(32, 32), made(0, constant(most, 62)...), chord.Trace{}, api.ErrShort},
		{arms(32, 32), made(0, constant(1<<15, 63)...), made(31, most), api.OK},
		{arms(32, 32), made(0, constant(1<<15+1, 63)...), chord.Trace{}, api.ErrLarge},
	} {
		v, e := chord.Weighted(x.c, x.k)
		want(t, "Weighted", list(i, v, e), list(i, x.v, x.e))
	}
	g := source(4)
	for range 2000 {
		c, x := someChord(g, 1+g.IntN(6)), someTrace(g, 20)
		v, e := chord.Weighted(c, x)
		wanted, f := weighed(x, weightsOf(c, 1))
		want(t, "Weighted", list(c, x, v, e), list(c, x, wanted, f))
	}
}

func TestLengthened(t *testing.T) {
	for i, x := range []struct {
		c    chord.Chord
		step int
		k    chord.Trace
		v    chord.Trace
		e    api.Errno
	}{
		{arms(1, 1), 1, made(11, -2, -2, -2, -2), made(11, -2, -2, -2, -2), api.OK},
		{arms(1, 1), 32, made(11, 5), made(11, 5), api.OK},
		{arms(2, 2), 1, made(11, -2, -2, -2, -2), made(12, -16, -16), api.OK},
		{arms(2, 2), 2, made(12, -16, -16, -16, -16, -16), made(14, -128), api.OK},
		{arms(2, 2), 2, made(12, -16, -16, -16, -16), chord.Trace{}, api.ErrShort},
		{arms(1, 2), 2, made(0, 1, 2, 3), made(0, 5), api.OK},
		{arms(2, 1), 2, made(0, 1, 2, 3), made(2, 7), api.OK},
		{arms(1, 2), 2, made(0, 1, unknown, 3), made(0, 5), api.OK},
		{arms(1, 2), 2, made(0, unknown, 1, 2, 3), made(0, unknown, 5), api.OK},
		{arms(1, 2), 2, made(0, 1<<29, 0, 1), chord.Trace{}, api.ErrLarge},
		{arms(1, 2), 32, made(0, constant(1, 33)...), made(0, 3), api.OK},
		{arms(1, 2), 32, made(0, constant(1, 32)...), chord.Trace{}, api.ErrShort},
		{arms(32, 32), 32, made(0, constant(1, 62*32)...), chord.Trace{}, api.ErrShort},
		{arms(32, 32), 32, made(0, constant(1, 62*32+1)...), made(31*32, 32768), api.OK},
		{arms(1, 1), 1, made(0), chord.Trace{}, api.ErrShort},
		{arms(1, 1), 0, made(0), chord.Trace{}, api.ErrRange},
		{arms(1, 1), -1, made(0), chord.Trace{}, api.ErrRange},
		{arms(1, 1), 33, made(0, 1), chord.Trace{}, api.ErrRange},
		{arms(1, 1), math.MinInt, made(0, 1), chord.Trace{}, api.ErrRange},
		{arms(1, 1), math.MaxInt, made(0, 1), chord.Trace{}, api.ErrRange},
	} {
		v, e := chord.Lengthened(x.c, x.step, x.k)
		want(t, "Lengthened", list(i, v, e), list(i, x.v, x.e))
	}
	g := source(5)
	for range 2000 {
		c, step, x := someChord(g, 1+g.IntN(4)), between(g, 1, 4), someTrace(g, 30)
		v, e := chord.Lengthened(c, step, x)
		wanted, f := weighed(x, weightsOf(c, step))
		want(t, "Lengthened", list(c, step, x, v, e), list(c, step, x, wanted, f))
	}
}

// TestVersineErrors checks the errors of chords, of steps and of traces, and their order.
func TestVersineErrors(t *testing.T) {
	long := trace(0, constant(0, 4097))
	for i, x := range badTraces() {
		for name, f := range map[string]func() (chord.Trace, api.Errno){
			"Versines":   func() (chord.Trace, api.Errno) { return chord.Versines(arms(32, 32), x.t) },
			"Weighted":   func() (chord.Trace, api.Errno) { return chord.Weighted(arms(32, 32), x.t) },
			"Lengthened": func() (chord.Trace, api.Errno) { return chord.Lengthened(arms(32, 32), 32, x.t) },
		} {
			v, e := f()
			want(t, name+" of a bad trace", list(i, v, e), list(i, chord.Trace{}, x.e))
		}
	}
	for _, c := range []chord.Chord{arms(0, 1), arms(1, 0), arms(33, 1), arms(1, 33), arms(math.MinInt, math.MaxInt)} {
		for name, f := range map[string]func() (chord.Trace, api.Errno){
			"Versines":           func() (chord.Trace, api.Errno) { return chord.Versines(c, long) },
			"Versines of few":    func() (chord.Trace, api.Errno) { return chord.Versines(c, made(0)) },
			"Weighted":           func() (chord.Trace, api.Errno) { return chord.Weighted(c, long) },
			"Weighted of few":    func() (chord.Trace, api.Errno) { return chord.Weighted(c, made(0)) },
			"Lengthened":         func() (chord.Trace, api.Errno) { return chord.Lengthened(c, 1, long) },
			"Lengthened of few":  func() (chord.Trace, api.Errno) { return chord.Lengthened(c, 1, made(0)) },
			"Lengthened by much": func() (chord.Trace, api.Errno) { return chord.Lengthened(arms(1, 1), 33, long) },
		} {
			v, e := f()
			want(t, name+" by a bad chord", list(c, v, e), list(c, chord.Trace{}, api.ErrRange))
		}
		l, e := chord.Weights(c)
		want(t, "Weights of a bad chord", list(c, l, e), list(c, []int{}, api.ErrRange))
	}
}
