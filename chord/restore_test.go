package chord_test

import (
	"math"
	"slices"
	"testing"

	"versine/api"
	"versine/chord"
)

func TestTurned(t *testing.T) {
	for before := range 34 {
		for after := range 34 {
			c := arms(before, after)
			wanted, e := arms(after, before), chord.CheckChord(c)
			if e != api.OK {
				wanted = chord.Chord{}
			}
			got, f := chord.Turned(c)
			want(t, "Turned", list(c, got, f), list(c, wanted, e))
		}
	}
}

func TestRestored(t *testing.T) {
	const most = 1 << 30
	for i, x := range []struct {
		c    chord.Chord
		t    chord.Trace
		ends []int
		h    chord.Trace
		e    api.Errno
	}{
		{arms(1, 2), made(11, -6, -6, -6), []int{0, 1, 4}, squares(), api.OK},
		{arms(2, 1), made(12, -6, -6, -6), []int{0, 1, 4}, squares(), api.OK},
		{arms(1, 2), made(11, -6, -6, -6), []int{0, 1, 5}, made(10, 0, 1, 5, 9, 19, 23), api.OK},
		{arms(1, 2), made(11, -6, unknown, -6), []int{0, 1, 4}, made(10, 0, 1, 4, 9, unknown, 25), api.OK},
		{arms(1, 1), made(1, 2, unknown, 2, 2, 2), []int{0, 1}, made(0, 0, 1, 0, unknown, unknown, unknown, unknown), api.OK},
		{arms(2, 2), made(2, 0, unknown, 0, 0, 0, 0), []int{1, 2, 3, 4}, made(0, 1, 2, 3, 4, 5, unknown, 7, unknown, 9, unknown), api.OK},
		{arms(1, 1), made(1, unknown, 2), []int{0, 1}, made(0, 0, 1, unknown, unknown), api.OK},
		{arms(1, 1), made(1, 2, unknown), []int{0, 1}, made(0, 0, 1, 0, unknown), api.OK},
		{arms(1, 1), made(1), []int{7, 8}, made(0, 7, 8), api.OK},
		{arms(3, 1), made(3), []int{most, -most, 0, 1}, made(0, most, -most, 0, 1), api.OK},
		{arms(1, 1), made(0), []int{7, 8}, chord.Trace{}, api.ErrSpan},
		{arms(32, 32), made(32, 0), constant(most, 64), made(0, constant(most, 65)...), api.OK},
		{arms(32, 32), made(31, 0), constant(most, 64), chord.Trace{}, api.ErrSpan},
		{arms(32, 1), made(32, 33*5), constant(0, 33), chord.Trace{}, api.ErrForm},
		{arms(32, 1), made(32, 64), constant(0, 33), made(0, append(constant(0, 33), -2)...), api.OK},
		{arms(1, 32), made(1, -7), constant(0, 33), made(0, append(constant(0, 33), 7)...), api.OK},

		{arms(2, 1), made(12, -5), []int{0, 1, 4}, chord.Trace{}, api.ErrForm},
		{arms(2, 1), made(2, 5), []int{0, 0, 0}, chord.Trace{}, api.ErrForm},
		{arms(2, 1), made(2, -5), []int{0, 0, 0}, chord.Trace{}, api.ErrForm},
		{arms(2, 1), made(2, -1), []int{0, 0, most}, chord.Trace{}, api.ErrForm},
		{arms(2, 1), made(2, 0), []int{0, 0, most}, chord.Trace{}, api.ErrLarge},
		{arms(2, 1), made(2, 0, 0), []int{2, 4, 4}, chord.Trace{}, api.ErrForm},
		{arms(2, 1), made(2, unknown, 0, 0), []int{2, 4, 4}, made(0, 2, 4, 4, unknown, unknown, unknown), api.OK},
		{arms(2, 1), made(2, 0, unknown, 1, 0), []int{0, 0, 0}, made(0, 0, 0, 0, 0, unknown, unknown, unknown), api.OK},
		{arms(2, 1), made(2, 1, 2*most), []int{0, 0, 0}, chord.Trace{}, api.ErrRange},
		{arms(2, 1), made(2, 0, 0, 1), []int{most, most, most}, chord.Trace{}, api.ErrForm},
		{arms(2, 1), made(2, -2, 1), []int{most, most, most}, chord.Trace{}, api.ErrLarge},
		{arms(2, 1), made(2, 1, -2), []int{most, most, most}, chord.Trace{}, api.ErrForm},
		{arms(1, 1), made(1, 0), []int{0, most}, chord.Trace{}, api.ErrLarge},
		{arms(1, 1), made(1, most), []int{0, most}, made(0, 0, most, most), api.OK},
		{arms(1, 1), made(1, most-1), []int{0, most}, chord.Trace{}, api.ErrLarge},
		{arms(1, 1), made(1, -most), []int{0, -most}, made(0, 0, -most, -most), api.OK},
		{arms(1, 1), made(1, 1-most), []int{0, -most}, chord.Trace{}, api.ErrLarge},
		{arms(1, 1), made(1, most, -most), []int{-most, 0}, made(0, -most, 0, 0, most), api.OK},
		{arms(1, 1), made(1, most, 0, unknown), []int{0, most}, made(0, 0, most, most, most, unknown), api.OK},

		{arms(1, 1), made(1, 1), []int{0}, chord.Trace{}, api.ErrShape},
		{arms(1, 1), made(1, 1), []int{0, 0, 0}, chord.Trace{}, api.ErrShape},
		{arms(1, 1), made(1, 1), nil, chord.Trace{}, api.ErrShape},
		{arms(1, 1), made(0, 1), []int{most + 1, 0, 0}, chord.Trace{}, api.ErrShape},
		{arms(1, 1), made(0, 1), []int{0, most + 1}, chord.Trace{}, api.ErrRange},
		{arms(1, 1), made(0, 1), []int{-most - 1, 0}, chord.Trace{}, api.ErrRange},
		{arms(1, 1), made(1, 1), []int{0, math.MinInt}, chord.Trace{}, api.ErrRange},
		{arms(2, 1), made(1, constant(1, 4096)...), []int{0, 1, 4}, chord.Trace{}, api.ErrSpan},
		{arms(2, 1), made(2, constant(1, 4094)...), []int{0, 1, 4}, chord.Trace{}, api.ErrMany},
		{arms(2, 1), made(2, constant(0, 4093)...), []int{1, 1, 1}, made(0, constant(1, 4096)...), api.OK},
		{arms(2, 1), made(api.MaxPlace-4094, constant(1, 4094)...), []int{0, 1, 4}, chord.Trace{}, api.ErrMany},
		{arms(1, 2), made(api.MaxPlace-2, 1), []int{0, 1, 4}, chord.Trace{}, api.ErrLarge},
		{arms(1, 2), made(api.MaxPlace-3, 0), []int{1, 1, 1}, made(api.MaxPlace-4, 1, 1, 1, 1), api.OK},
		{arms(2, 1), made(api.MaxPlace-1, 1), []int{0, 1, 4}, chord.Trace{}, api.ErrLarge},
		{arms(2, 1), made(api.MaxPlace-2, 0), []int{1, 1, 1}, made(api.MaxPlace-4, 1, 1, 1, 1), api.OK},
		{arms(1, 1), made(api.MaxPlace), []int{0, 0}, chord.Trace{}, api.ErrLarge},
		{arms(1, 1), made(api.MaxPlace - 1), []int{0, 0}, made(api.MaxPlace-2, 0, 0), api.OK},
	} {
		h, e := chord.Restored(x.c, x.t, x.ends)
		want(t, "Restored", list(i, h, e), list(i, x.h, x.e))
	}
}

// restored returns the heights as the chapter defines them, with the errors ErrForm and ErrLarge.
func restored(c chord.Chord, readings chord.Trace, ends []int) (chord.Trace, api.Errno) {
	heights := slices.Clone(ends)
	for i, reading := range values(readings) {
		middle, before := heights[i+c.Before], heights[i]
		if reading == unknown || middle == unknown || before == unknown {
			heights = append(heights, unknown)
			continue
		}
		product := (c.Before+c.After)*middle - c.After*before - reading
		if math.Mod(float64(product), float64(c.Before)) != 0 {
			return chord.Trace{}, api.ErrForm
		}
		height := int(float64(product) / float64(c.Before))
		if height < -1<<30 || height > 1<<30 {
			return chord.Trace{}, api.ErrLarge
		}
		heights = append(heights, height)
	}
	return made(readings.First-c.Before, heights...), api.OK
}

func TestRestoredHeights(t *testing.T) {
	g := source(9)
	counts := map[api.Errno]int{}
	for range 5000 {
		c := someChord(g, 1+g.IntN(4))
		if g.IntN(2) == 0 {
			c.Before = 1
		}
		bound := 1 << g.IntN(31)
		readings := made(between(g, c.Before, 40), someValues(g, g.IntN(12), bound, 2+g.IntN(20))...)
		ends := someValues(g, c.Before+c.After, bound, math.MaxInt)
		wanted, e := restored(c, readings, ends)
		counts[e]++
		h, f := chord.Restored(c, readings, ends)
		want(t, "Restored", list(c, readings, ends, h, f), list(c, readings, ends, wanted, e))
	}
	for _, e := range []api.Errno{api.OK, api.ErrForm, api.ErrLarge} {
		if counts[e] < 200 {
			t.Errorf("Restored: too few results with the error %v: %v", e, counts[e])
		}
	}
}

func TestRestoredErrors(t *testing.T) {
	for i, x := range badTraces() {
		h, e := chord.Restored(arms(2, 1), x.t, []int{1})
		want(t, "Restored from bad readings", list(i, h, e), list(i, chord.Trace{}, x.e))
		h, e = chord.Restored(arms(2, 0), x.t, nil)
		want(t, "Restored by a bad chord", list(i, h, e), list(i, chord.Trace{}, api.ErrRange))
	}
	for _, c := range []chord.Chord{arms(0, 1), arms(1, 0), arms(33, 1), arms(1, 33), arms(math.MinInt, math.MaxInt)} {
		h, e := chord.Restored(c, made(0), nil)
		want(t, "Restored by a bad chord", list(c, h, e), list(c, chord.Trace{}, api.ErrRange))
	}
}

func TestAgain(t *testing.T) {
	for i, x := range []struct {
		h, r chord.Trace
		is   bool
		e    api.Errno
	}{
		{squares(), made(11, -6, -6, -6), true, api.OK},
		{squares(), made(11, -6, -6, -7), false, api.OK},
		{squares(), made(11, -5, -6, -6), false, api.OK},
		{squares(), made(11, -6, 0, -6), false, api.OK},
		{squares(), made(11, -6, unknown, -6), true, api.OK},
		{squares(), made(11, unknown, unknown, unknown), true, api.OK},
		{squares(), made(11, unknown, unknown, 6), false, api.OK},
		{squares(), made(11, -6, unknown, 6), false, api.OK},
		{torn(), made(11, -6, 1, 2), true, api.OK},
		{torn(), made(11, -7, 1, 2), false, api.OK},
		{made(10, 0, 1, unknown, unknown, 16, 25), made(11, 7, 7, 7), true, api.OK},
		{squares(), made(12, -6, -6, -6), false, api.ErrShape},
		{squares(), made(10, -6, -6, -6), false, api.ErrShape},
		{squares(), made(11, -6, -6), false, api.ErrShape},
		{squares(), made(11, -6, -6, -6, -6), false, api.ErrShape},
		{squares(), made(11), false, api.ErrShape},
		{made(0, 1, 2), made(1), false, api.ErrShort},
		{made(0, 1, 2, 3), made(1), false, api.ErrShort},
		{made(0), made(9, 9), false, api.ErrShort},
		{made(0, 0, 1<<30, 0, 0), made(9, 9), false, api.ErrLarge},
		{made(0, 0, 1<<30, 0, 0), made(1, unknown), false, api.ErrLarge},
		{made(0, 0, 1<<30, 0, unknown), made(1, 5), true, api.OK},
	} {
		is, e := chord.Again(arms(1, 2), x.h, x.r)
		want(t, "Again", list(i, is, e), list(i, x.is, x.e))
	}
	for i, x := range badTraces() {
		is, e := chord.Again(arms(1, 2), x.t, made(-1))
		if x.e != api.ErrRange {
			want(t, "Again of bad heights and readings", list(i, is, e), list(i, false, x.e))
		}
		is, e = chord.Again(arms(1, 2), x.t, made(11, -6, -6, -6))
		want(t, "Again of bad heights", list(i, is, e), list(i, false, x.e))
		is, e = chord.Again(arms(1, 2), squares(), x.t)
		want(t, "Again of bad readings", list(i, is, e), list(i, false, x.e))
		is, e = chord.Again(arms(1, 2), made(0), x.t)
		want(t, "Again of bad readings", list(i, is, e), list(i, false, x.e))
		is, e = chord.Again(arms(33, 2), x.t, x.t)
		want(t, "Again by a bad chord", list(i, is, e), list(i, false, api.ErrRange))
	}
	is, e := chord.Again(arms(1, 0), squares(), made(11, -6, -6, -6))
	want(t, "Again by a bad chord", list(is, e), list(false, api.ErrRange))
}

func TestSmoothed(t *testing.T) {
	const most = 1 << 30
	for i, x := range []struct {
		t    chord.Trace
		half int
		s    chord.Trace
		e    api.Errno
	}{
		{squares(), 0, squares(), api.OK},
		{squares(), 1, made(11, 5, 14, 29, 50), api.OK},
		{squares(), 2, made(12, 30, 55), api.OK},
		{squares(), 3, chord.Trace{}, api.ErrShort},
		{made(0), 0, chord.Trace{}, api.ErrShort},
		{torn(), 0, torn(), api.OK},
		{torn(), 1, made(11, unknown, unknown, unknown, 50), api.OK},
		{torn(), 2, made(12, unknown, unknown), api.OK},
		{made(0, unknown, 1, 2, 3, unknown), 1, made(1, unknown, 6, unknown), api.OK},
		{made(api.MaxPlace-4096, constant(1, 4096)...), 64, made(api.MaxPlace-4032, constant(129, 4096-128)...), api.OK},
		{made(0, constant(1, 129)...), 64, made(64, 129), api.OK},
		{made(0, constant(1, 128)...), 64, chord.Trace{}, api.ErrShort},
		{made(0, most, -1, 1), 1, made(1, most), api.OK},
		{made(0, most, most, -most), 1, made(1, most), api.OK},
		{made(0, most, 0, 1), 1, chord.Trace{}, api.ErrLarge},
		{made(0, -most, 0, -1), 1, chord.Trace{}, api.ErrLarge},
		{made(0, 0, 0, 0, most, 1), 1, chord.Trace{}, api.ErrLarge},
		{made(0, 0, 0, 0, most, unknown, most), 1, made(1, 0, most, unknown, unknown), api.OK},
		{made(0, most, most), 1, chord.Trace{}, api.ErrShort},
		{squares(), -1, chord.Trace{}, api.ErrRange},
		{squares(), 65, chord.Trace{}, api.ErrRange},
		{made(0), 65, chord.Trace{}, api.ErrRange},
		{squares(), math.MinInt, chord.Trace{}, api.ErrRange},
		{squares(), math.MaxInt, chord.Trace{}, api.ErrRange},
	} {
		s, e := chord.Smoothed(x.t, x.half)
		want(t, "Smoothed", list(i, s, e), list(i, x.s, x.e))
	}
	for i, x := range badTraces() {
		for _, half := range []int{-1, 0, 64} {
			s, e := chord.Smoothed(x.t, half)
			want(t, "Smoothed of a bad trace", list(i, s, e), list(i, chord.Trace{}, x.e))
		}
	}
	g := source(10)
	for range 2000 {
		x, half := someTrace(g, 20), g.IntN(8)
		weights := map[int]int{}
		for d := -half; d <= half; d++ {
			weights[d] = 1
		}
		s, e := chord.Smoothed(x, half)
		wanted, f := weighed(x, weights)
		want(t, "Smoothed", list(x, half, s, e), list(x, half, wanted, f))
	}
}

func TestBand(t *testing.T) {
	const most = 1 << 30
	for i, x := range []struct {
		t           chord.Trace
		short, long int
		b           chord.Trace
		e           api.Errno
	}{
		{squares(), 0, 1, made(11, -2, -2, -2, -2), api.OK},
		{squares(), 1, 2, made(12, -20, -20), api.OK},
		{squares(), 0, 2, made(12, -10, -10), api.OK},
		{torn(), 0, 1, made(11, unknown, unknown, unknown, -2), api.OK},
		{torn(), 0, 2, made(12, unknown, unknown), api.OK},
		{made(0, unknown, 1, 2, 3, 4, 5, unknown), 0, 2, made(2, unknown, 0, unknown), api.OK},
		{squares(), 0, 3, chord.Trace{}, api.ErrShort},
		{made(0), 0, 1, chord.Trace{}, api.ErrShort},
		{made(0, constant(most, 129)...), 63, 64, made(64, 0), api.OK},
		{made(0, constant(-most, 129)...), 0, 64, made(64, 0), api.OK},
		{made(0, constant(most, 128)...), 0, 64, chord.Trace{}, api.ErrShort},
		{made(0, 0, 1<<29, 0), 0, 1, made(1, most), api.OK},
		{made(0, -1, 1<<29, 0), 0, 1, chord.Trace{}, api.ErrLarge},
		{made(0, 0, -1<<29, 0), 0, 1, made(1, -most), api.OK},
		{made(0, 0, -1<<29, 1), 0, 1, chord.Trace{}, api.ErrLarge},
		{made(0, unknown, most, 0), 0, 1, made(1, unknown), api.OK},
		{squares(), 1, 1, chord.Trace{}, api.ErrOrder},
		{squares(), 2, 1, chord.Trace{}, api.ErrOrder},
		{made(0), 0, 0, chord.Trace{}, api.ErrOrder},
		{squares(), 64, 64, chord.Trace{}, api.ErrOrder},
		{squares(), -1, 1, chord.Trace{}, api.ErrRange},
		{squares(), 65, 66, chord.Trace{}, api.ErrRange},
		{squares(), 65, 1, chord.Trace{}, api.ErrRange},
		{squares(), 0, 65, chord.Trace{}, api.ErrRange},
		{squares(), 0, -1, chord.Trace{}, api.ErrRange},
		{squares(), math.MaxInt, math.MinInt, chord.Trace{}, api.ErrRange},
		{squares(), math.MinInt, math.MaxInt, chord.Trace{}, api.ErrRange},
	} {
		b, e := chord.Band(x.t, x.short, x.long)
		want(t, "Band", list(i, b, e), list(i, x.b, x.e))
	}
	for i, x := range badTraces() {
		for _, long := range []int{-1, 0, 64} {
			b, e := chord.Band(x.t, 0, long)
			want(t, "Band of a bad trace", list(i, b, e), list(i, chord.Trace{}, x.e))
			b, e = chord.Band(x.t, -1, long)
			want(t, "Band of a bad trace", list(i, b, e), list(i, chord.Trace{}, x.e))
		}
	}
}

// TestBandOfSums checks that a band is the difference of two smoothed traces.
func TestBandOfSums(t *testing.T) {
	g := source(11)
	for range 2000 {
		x := made(g.IntN(9), someValues(g, between(g, 12, 30), 1000, 2+g.IntN(20))...)
		long := between(g, 1, 5)
		short := g.IntN(long)
		b, e := chord.Band(x, short, long)
		s, e1 := chord.Smoothed(x, short)
		l, e2 := chord.Smoothed(x, long)
		var wanted []int
		for p := range len(l.Values) {
			n, _ := at(s, l.First+p)
			k, _ := at(l, l.First+p)
			if k == unknown {
				wanted = append(wanted, unknown)
				continue
			}
			wanted = append(wanted, n*(2*long+1)-k*(2*short+1))
		}
		want(t, "Band", list(x, short, long, b, e, e1, e2), list(x, short, long, made(l.First, wanted...), api.OK, api.OK, api.OK))
	}
}
