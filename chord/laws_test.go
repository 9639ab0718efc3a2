package chord_test

import (
	"math/rand/v2"
	"testing"

	"versine/api"
	"versine/chord"
)

// someHeights returns a trace that has versines by chords with arms up to 6.
func someHeights(g *rand.Rand, oneIn int) chord.Trace {
	return made(g.IntN(50), someValues(g, between(g, 13, 40), 10000, oneIn)...)
}

// TestRestoredGivesReadings checks that restored geometry, measured again, gives the readings.
func TestRestoredGivesReadings(t *testing.T) {
	g := source(20)
	for range 1000 {
		c := someChord(g, 6)
		c.Before = 1 // so that all heights are integers
		readings := made(between(g, 1, 40), someValues(g, between(g, 1, 5), 100, 3)...)
		ends := someValues(g, 1+c.After, 100, 1<<40)
		h, e := chord.Restored(c, readings, ends)
		again, f := chord.Again(c, h, readings)
		want(t, "Again", list(c, readings, ends, e, again, f), list(c, readings, ends, api.OK, true, api.OK))
		v, e := chord.Versines(c, h)
		for i, n := range values(v) {
			if n != unknown {
				want(t, "a versine of restored geometry", list(c, readings, ends, e, i, n), list(c, readings, ends, api.OK, i, values(readings)[i]))
			}
		}
		if len(readings.Holes) == 0 {
			want(t, "Versines of restored geometry", list(c, readings, ends, v, e), list(c, readings, ends, readings, api.OK))
		}
	}
}

// TestRestoredFromVersines checks that geometry is restored from its own versines and its first values, and what is known of it.
func TestRestoredFromVersines(t *testing.T) {
	g := source(21)
	for range 2000 {
		c, x := someChord(g, 6), someHeights(g, 1<<40)
		v, e := chord.Versines(c, x)
		ends := x.Values[:c.Before+c.After]
		h, f := chord.Restored(c, v, ends)
		want(t, "Restored", list(c, x, h, e, f), list(c, x, x, api.OK, api.OK))
		again, e := chord.Again(c, x, v)
		want(t, "Again", list(c, x, again, e), list(c, x, true, api.OK))

		i := g.IntN(len(v.Values)) // a reading that gets lost
		l := values(v)
		l[i] = unknown
		h, e = chord.Restored(c, made(v.First, l...), ends)
		wanted := values(x)
		for k := range l {
			if needs(c, k, i) {
				wanted[k+c.Before+c.After] = unknown
			}
		}
		want(t, "Restored with a hole", list(c, x, i, h, e), list(c, x, i, made(x.First, wanted...), api.OK))
	}
}

// needs reports whether the height that a reading gives needs another reading: this one itself, or
// one that a height needs from which it is computed.
func needs(c chord.Chord, reading, other int) bool {
	return reading == other || reading > other && (needs(c, reading-c.After, other) || needs(c, reading-c.Before-c.After, other))
}

// TestNothingIsKnownOfHoles checks that the same holes make the same results unknown, whatever stood there.
func TestNothingIsKnownOfHoles(t *testing.T) {
	g := source(22)
	for range 2000 {
		c, x := someChord(g, 6), someHeights(g, 8)
		whole := values(x)
		for i, n := range whole {
			if n == unknown {
				whole[i] = between(g, -10000, 10000)
			}
		}
		y := made(x.First, whole...)
		step, half := between(g, 1, 2), between(g, 1, 4)
		for name, f := range map[string]func(t chord.Trace) (chord.Trace, api.Errno){
			"Versines":   func(t chord.Trace) (chord.Trace, api.Errno) { return chord.Versines(c, t) },
			"Curvature":  chord.Curvature,
			"Weighted":   func(t chord.Trace) (chord.Trace, api.Errno) { return chord.Weighted(c, t) },
			"Lengthened": func(t chord.Trace) (chord.Trace, api.Errno) { return chord.Lengthened(c, step, t) },
			"Smoothed":   func(t chord.Trace) (chord.Trace, api.Errno) { return chord.Smoothed(t, half) },
			"Band":       func(t chord.Trace) (chord.Trace, api.Errno) { return chord.Band(t, half-1, half) },
			"Reversed":   func(t chord.Trace) (chord.Trace, api.Errno) { return chord.Reversed(t, 100) },
		} {
			a, e1 := f(x)
			b, e2 := f(y)
			known := values(a)
			for i, n := range known {
				if n == unknown {
					b.Values[i] = unknown
				}
			}
			want(t, name, list(c, x, a.First, known, e1), list(c, x, b.First, b.Values, e2))
		}
	}
}

// TestUnseenChangesNothing checks that a straight line, and each wave of a blind period, change no reading.
func TestUnseenChangesNothing(t *testing.T) {
	g := source(23)
	for range 500 {
		c, x := someChord(g, 6), someHeights(g, 12)
		v, e := chord.Versines(c, x)
		var line []int
		level, slope := between(g, -100, 100), between(g, -100, 100)
		for i := range x.Values {
			line = append(line, level+slope*i)
		}
		unseen := []chord.Trace{made(x.First, line...)}
		periods, _ := chord.Blind(c)
		for _, n := range periods {
			wave := someValues(g, n, 16384, 1<<40)
			is, e := chord.Sees(c, wave)
			want(t, "Sees", list(c, wave, is, e), list(c, wave, false, api.OK))
			y, _ := chord.Repeated(wave, x.First, len(x.Values))
			unseen = append(unseen, y)
		}
		for _, y := range unseen {
			sum, f := chord.Sum(x, y)
			w, h := chord.Versines(c, sum)
			want(t, "Versines of a sum", list(c, x, y, w, e, f, h), list(c, x, y, v, api.OK, api.OK, api.OK))
			again, f := chord.Again(c, sum, v)
			want(t, "Again of a sum", list(c, x, y, again, f), list(c, x, y, true, api.OK))
		}
	}
}

// TestBlindToBoth checks that waves of the blind periods of two chords are seen by none of them.
func TestBlindToBoth(t *testing.T) {
	g := source(24)
	for range 2000 {
		c, d := arms(6*between(g, 1, 5), 6*between(g, 1, 5)), arms(4*between(g, 1, 8), 4*between(g, 1, 8))
		periods, e := chord.Both(c, d)
		if len(periods) == 0 {
			t.Errorf("Both of %v and %v: got none, %v", c, d, e)
		}
		for _, n := range periods {
			wave := someValues(g, n, 16384, 1<<40)
			a, e1 := chord.Sees(c, wave)
			b, e2 := chord.Sees(d, wave)
			want(t, "Sees", list(c, d, wave, a, b, e1, e2), list(c, d, wave, false, false, api.OK, api.OK))
		}
	}
}

// TestWeightedCurvature checks that the curvature, weighted, gives the versines where both are known.
func TestWeightedCurvature(t *testing.T) {
	g := source(25)
	for range 2000 {
		c, x := someChord(g, 6), someHeights(g, 1+g.IntN(30))
		v, e1 := chord.Versines(c, x)
		k, e2 := chord.Curvature(x)
		w, e3 := chord.Weighted(c, k)
		n := min(len(v.Values), len(w.Values))
		want(t, "Weighted", list(c, x, w.First, len(w.Values), e1, e2, e3), list(c, x, v.First, n, api.OK, api.OK, api.OK))
		for i := range v.Values {
			a, b := values(v)[i], values(w)[i]
			if a != unknown && b != unknown && a != b || a == unknown && b != unknown {
				t.Errorf("Weighted by %v the curvature of %v: got %v, want %v", c, x, w, v)
			}
		}
	}
}

// TestLengthenedVersines checks that versines of a short chord, lengthened, are those of the long one.
func TestLengthenedVersines(t *testing.T) {
	g := source(26)
	for range 2000 {
		c, step, x := someChord(g, 4), between(g, 1, 4), made(g.IntN(50), someValues(g, between(g, 33, 60), 10000, 1<<40)...)
		short, e1 := chord.Versines(arms(step, step), x)
		lengthened, e2 := chord.Lengthened(c, step, short)
		long, e3 := chord.Versines(arms(c.Before*step, c.After*step), x)
		want(t, "Lengthened", list(c, step, x, lengthened, e1, e2), list(c, step, x, long, api.OK, e3))
	}
}

// TestReversedVersines checks that the versines of the reversed trace by the turned chord are the reversed versines.
func TestReversedVersines(t *testing.T) {
	g := source(27)
	for range 2000 {
		c, x, pivot := someChord(g, 6), someHeights(g, 12), between(g, 60, 200)
		turned, e1 := chord.Turned(c)
		back, e2 := chord.Reversed(x, pivot)
		a, e3 := chord.Versines(turned, back)
		v, e4 := chord.Versines(c, x)
		b, e5 := chord.Reversed(v, pivot)
		want(t, "Versines of a reversed trace", list(c, x, pivot, a, e1, e2, e3, e4, e5), list(c, x, pivot, b, api.OK, api.OK, api.OK, api.OK, api.OK))
		twice, e := chord.Reversed(back, pivot)
		want(t, "Reversed twice", list(x, pivot, twice, e), list(x, pivot, x, api.OK))
		again, e := chord.Turned(turned)
		want(t, "Turned twice", list(again, e), list(c, api.OK))
	}
}

// TestPanelsOfWaves checks that panels of a wave of four are multiplied by the transfer.
func TestPanelsOfWaves(t *testing.T) {
	g := source(28)
	for range 2000 {
		c := someChord(g, 32)
		wave := someValues(g, 4, 16384, 1<<40)
		x, e1 := chord.Repeated(wave, 10, 68)
		v, e2 := chord.Versines(c, x)
		p := 10 + c.Before
		heights, e3 := chord.Panel(x, p)
		readings, e4 := chord.Panel(v, p)
		transfer, e5 := chord.Transfer(c)
		for k := range heights {
			heights[k] *= transfer[k]
		}
		want(t, "Panel", list(c, wave, readings, e1, e2, e3, e4, e5), list(c, wave, heights, api.OK, api.OK, api.OK, api.OK, api.OK))
	}
}

// TestTextsComeBack checks that traces are parsed as they were printed.
func TestTextsComeBack(t *testing.T) {
	g := source(29)
	for range 1000 {
		x := someTrace(g, 30)
		s, e := chord.Print(x)
		back, line, f := chord.Parse(s)
		want(t, "Parse of Print", list(x, e, back, line, f), list(x, api.OK, x, 0, api.OK))
		again, e := chord.Print(back)
		want(t, "Print of Parse", list(x, again, e), list(x, text(x), api.OK))
	}
}
