package align_test

import (
	"slices"
	"testing"

	"versine/align"
	"versine/api"
	"versine/sample"
)

// TestShownRegistration checks the second part of example 4.
func TestShownRegistration(t *testing.T) {
	r, e := align.Registered(shown(), least(), run(167, 16, 32))
	want(t, "Registered", list(r, e), list(run(174, 16, none, 32), api.OK))
}

// TestRegistered checks that of the counts with one guess the last known one decides.
func TestRegistered(t *testing.T) {
	slow := ride("a 0 a 2 a 102", "a 0 a 6 a 106") // the guesses of 0 to 6 are 0, 0, 1, 1, 1, 2, 2
	all := pairs(0, 0, 1, 1, 2, 2)
	for i, x := range []struct {
		r    sample.Run
		want sample.Run
	}{
		{run(0, 1, 2, 3, 4, 5, 6, 7), run(0, 2, 5, 7)},
		{run(0, 1, 2, 3, 4, 5, 6), run(0, 2, 5, 6)},
		{run(0, 1, none, 3, 4, none, none, none), run(0, 1, 4, none)},
		{run(0, 1, none, none, none, none, 6, none), run(0, 1, none, 6)},
		{run(0, none, none, none, none, none, none, none), run(0, none, none, none)},
		{run(2, 3, none), run(1, 3)},
		{run(3, none, 0), run(1, 0)},
		{run(4, 5), run(1, 5)},
		{run(4, none), run(1, none)},
		{run(5, 16384, -16384), run(2, -16384)},
		{run(106, 1, 2), run(102, 1, 2)},
	} {
		got, e := align.Registered(slow, all, x.r)
		want(t, "Registered of a slow odometer", list(i, got, e), list(i, x.want, api.OK))
	}
	fast := ride("a 0 a 9", "a 0 a 3") // the guesses of 0 to 3 are 0, 3, 6, 9
	got, e := align.Registered(fast, pairs(0, 0, 1, 1), run(0, 1, none, 3, 4))
	want(t, "Registered of a fast odometer", list(got, e), list(run(0, 1, none, none, none, none, none, 3, none, none, 4), api.OK))
	named := run(95, 0)
	named.Name, named.Samples[0] = "Other_1", minusZero
	got, e = align.Registered(shown(), least(), named)
	want(t, "Registered of a name", list(got, e), list(sample.Run{Name: "Other_1", First: 100, Samples: []float32{0}}, api.OK))
}

// TestRegisteredAtTheEnds checks the errors of places that are none, and of too many.
func TestRegisteredAtTheEnds(t *testing.T) {
	low, high, fast := ride("a 3", "a 10"), ride("a 99999999", "a 10"), ride("a 0 a 4100", "a 0 a 2050")
	alone, both := pairs(0, 0), pairs(0, 0, 1, 1)
	one := run(7, 5)
	for i, x := range []struct {
		ride  align.Ride
		l     []align.Pair
		r     sample.Run
		first int
		n     int
		e     api.Errno
	}{
		{low, alone, run(0), 0, 0, api.ErrShort},
		{low, alone, run(7), 0, 0, api.ErrShort},
		{low, alone, one, 0, 1, api.OK},
		{low, alone, run(6, 5), 0, 0, api.ErrRange},
		{low, alone, run(6, 5, 5, 5), 0, 0, api.ErrRange},
		{low, alone, run(6, none, 5), 0, 0, api.ErrRange},
		{high, alone, run(10, 5), 99999999, 1, api.OK},
		{high, alone, run(9, 5, 5), 99999998, 2, api.OK},
		{high, alone, run(11, 5), 0, 0, api.ErrRange},
		{high, alone, run(9, 5, 5, 5), 0, 0, api.ErrRange},
		{high, alone, run(9, 5, 5, none), 0, 0, api.ErrRange},
		{high, alone, run(0, constant(5, 4096)...), 0, 0, api.ErrRange},
		{low, alone, run(0, constant(5, 4096)...), 0, 0, api.ErrRange},
		{low, alone, run(7, constant(5, 4096)...), 0, 4096, api.OK},
		{fast, both, run(0, constant(5, 2048)...), 0, 4095, api.OK},
		{fast, both, run(0, constant(5, 2049)...), 0, 0, api.ErrMany},
		{fast, both, run(2050, constant(5, 4096)...), 4100, 4096, api.OK},
		{fast, both, run(2049, constant(5, 4095)...), 4098, 4096, api.OK},
		{fast, both, run(2049, constant(5, 4096)...), 0, 0, api.ErrMany},
		{ride("a 0 a 100000000", "a 0 a 1"), both, run(0, 5, 5), 0, 0, api.ErrRange},
		{ride("a 0 a 99999999", "a 0 a 1"), both, run(0, 5, 5), 0, 0, api.ErrMany},
		{ride("a 0 a 99999999", "a 0 a 1"), both, run(1, 5), 99999999, 1, api.OK},
	} {
		got, e := align.Registered(x.ride, x.l, x.r)
		want(t, "Registered", list(i, got.First, len(got.Samples), e), list(i, x.first, x.n, x.e))
		if e != api.OK {
			want(t, "Registered beside an error", list(i, got), list(i, sample.Run{}))
		}
	}
}

// TestAllRegistrations checks Registered against the definition.
func TestAllRegistrations(t *testing.T) {
	g := source(4)
	enough := 0
	for i := range 4000 {
		r, l, _ := somePlaced(g)
		x := someRun(g, 60, 20, 16384)
		if len(l) == 0 || len(x.Samples) == 0 {
			continue
		}
		got, e := align.Registered(r, l, x)
		first, last := guessOf(r, l, x.First), guessOf(r, l, x.First+len(x.Samples)-1)
		if first < 0 || last-first >= 4096 {
			want(t, "Registered", list(i, r, l, x, got, e), list(i, r, l, x, sample.Run{}, map[bool]api.Errno{true: api.ErrRange, false: api.ErrMany}[first < 0]))
			continue
		}
		enough++
		integers := constant(none, last-first+1)
		samples := known(x)
		for count := x.First; count < x.First+len(x.Samples); count++ {
			if n, isKnown := samples[count]; isKnown {
				integers[guessOf(r, l, count)-first] = n
			}
		}
		want(t, "Registered", list(i, r, l, x, got, e), list(i, r, l, x, run(first, integers...), api.OK))
	}
	if enough < 1000 {
		t.Errorf("too few runs are registered: %v", enough)
	}
}

// TestMoved checks moved runs, and the errors of places that are none.
func TestMoved(t *testing.T) {
	r := run(12, 16, none, 64, 144)
	for i, x := range []struct {
		r     sample.Run
		by    int
		first int
		e     api.Errno
	}{
		{r, 0, 12, api.OK},
		{r, 5, 17, api.OK},
		{r, -12, 0, api.OK},
		{r, -13, 0, api.ErrRange},
		{r, -100000000, 0, api.ErrRange},
		{r, 99999984, 99999996, api.OK},
		{r, 99999985, 0, api.ErrRange},
		{r, 100000000, 0, api.ErrRange},
		{run(12), 99999988, 100000000, api.OK},
		{run(12), 99999989, 0, api.ErrRange},
		{run(99999996, 1, 2, 3, 4), 1, 0, api.ErrRange},
		{run(99999996, 1, 2, 3, 4), 0, 99999996, api.OK},
		{run(99999996, 1, 2, 3, 4), -99999996, 0, api.OK},
	} {
		moved, e := align.Moved(x.r, x.by)
		wanted := x.r
		wanted.First = x.first
		if x.e != api.OK {
			wanted = sample.Run{}
		}
		want(t, "Moved", list(i, moved, e), list(i, wanted, x.e))
	}
	named := sample.Run{Name: "Other_1", First: 3, Samples: []float32{minusZero, 0, -1024}, Holes: spans(1, 2)}
	moved, e := align.Moved(named, 1)
	want(t, "Moved of a name", list(moved, e), list(sample.Run{Name: "Other_1", First: 4, Samples: []float32{0, 0, -1024}, Holes: spans(1, 2)}, api.OK))
	s, e := sample.Print(moved)
	want(t, "its text", list(s, e), list("run Other_1 4\nsamples 0\nhole 1\nsamples -16384\n", api.OK))
}

// TestTurned checks example 5, and rides that are turned about too little.
func TestTurned(t *testing.T) {
	for i, x := range []struct {
		r            align.Ride
		place, count int
		turned       align.Ride
		e            api.Errno
	}{
		{shown(), 500, 400, ride("balise 100 joint 250 balise 400", "balise 8 joint 100 joint 160 balise 305"), api.OK},
		{shown(), 400, 392, ride("balise 0 joint 150 balise 300", "balise 0 joint 92 joint 152 balise 297"), api.OK},
		{shown(), 399, 400, align.Ride{}, api.ErrRange},
		{shown(), 500, 391, align.Ride{}, api.ErrRange},
		{shown(), 0, 0, align.Ride{}, api.ErrRange},
		{shown(), 100000000, 100000000, ride("balise 99999600 joint 99999750 balise 99999900", "balise 99999608 joint 99999700 joint 99999760 balise 99999905"), api.OK},
		{ride("a 1 b 2", "c 3"), 2, 3, ride("b 0 a 1", "c 0"), api.OK},
		{ride("a 1 b 2", ""), 5, 0, ride("b 3 a 4", ""), api.OK},
		{ride("", "a 1 b 2"), 0, 5, ride("", "b 3 a 4"), api.OK},
		{align.Ride{}, 0, 0, align.Ride{}, api.OK},
	} {
		turned, e := align.Turned(x.r, x.place, x.count)
		want(t, "Turned", list(i, turned, e), list(i, x.turned, x.e))
	}
}

// TestTurnedPairs checks the other part of example 5, and all alignments of small rides.
func TestTurnedPairs(t *testing.T) {
	l, e := align.TurnedPairs(shown(), least())
	want(t, "TurnedPairs", list(l, e), list(pairs(0, 0, 2, 1, 3, 2), api.OK))
	g := source(5)
	for range 500 {
		r := someRide(g, 4, 2, 20)
		for _, l := range alignments(r) {
			var wanted []align.Pair
			for _, p := range slices.Backward(l) {
				wanted = append(wanted, align.Pair{Sight: len(r.Sights) - p.Sight - 1, Mark: len(r.Marks) - p.Mark - 1})
			}
			got, e := align.TurnedPairs(r, l)
			want(t, "TurnedPairs", list(r, l, got, e), list(r, l, wanted, api.OK))
		}
	}
}
