package align_test

import (
	"math/rand/v2"
	"testing"

	"versine/align"
	"versine/api"
	"versine/sample"
)

// placesBy returns the places at which a count is by a pair.
func placesBy(r align.Ride, p align.Pair, s align.Slip, count int) api.Interval {
	d := count - r.Sights[p.Sight].Count
	e := s.Blur + upwards(ratio(distance(d, 0)*s.Rate, 1000))
	place := r.Marks[p.Mark].Place + d
	return places(place-e, place+e)
}

// TestShownPlaces checks example 3, and what is permitted by each pair alone.
func TestShownPlaces(t *testing.T) {
	for i, x := range []struct {
		l     []align.Pair
		s     align.Slip
		count int
		w     api.Interval
		e     api.Errno
	}{
		{least(), slip(20, 3), 300, places(305, 313), api.OK},
		{pairs(0, 0), slip(20, 3), 300, places(297, 313), api.OK},
		{pairs(1, 1), slip(20, 3), 300, places(305, 315), api.OK},
		{pairs(3, 2), slip(20, 3), 300, places(303, 313), api.OK},
		{pairs(0, 0, 3, 2), slip(20, 3), 300, places(303, 313), api.OK},
		{pairs(0, 0), slip(20, 3), 95, places(97, 103), api.OK},
		{pairs(0, 0), slip(0, 0), 95, places(100, 100), api.OK},
		{pairs(0, 0), slip(0, 0), 0, places(5, 5), api.OK},
		// Places may be below 0, or above those of marks.
		{pairs(0, 0), slip(500, 3), 0, places(5-51, 5+51), api.OK},
		{pairs(0, 0), slip(0, 10000), 95, places(-9900, 10100), api.OK},
		{pairs(0, 0), slip(500, 0), 100000000, places(50000052, 149999958), api.OK},
		// |d| times the rate is rounded up: 1, 49, 50, 51 times 20 thousandths.
		{pairs(0, 0), slip(20, 0), 96, places(100, 102), api.OK},
		{pairs(0, 0), slip(20, 0), 94, places(98, 100), api.OK},
		{pairs(0, 0), slip(20, 0), 144, places(148, 150), api.OK},
		{pairs(0, 0), slip(20, 0), 145, places(149, 151), api.OK},
		{pairs(0, 0), slip(20, 0), 146, places(149, 153), api.OK},
		{pairs(0, 0), slip(20, 0), 45, places(49, 51), api.OK},
		{pairs(0, 0), slip(20, 0), 44, places(47, 51), api.OK},
		{pairs(0, 0), slip(1, 0), 96, places(100, 102), api.OK},
		// The pairs contradict one another.
		{least(), slip(0, 0), 240, api.Interval{}, api.ErrConflict},
		{least(), slip(0, 1), 300, api.Interval{}, api.ErrConflict},
		{pairs(0, 0, 1, 1), slip(0, 2), 95, api.Interval{}, api.ErrConflict},
		{pairs(0, 0, 1, 1), slip(0, 3), 95, places(102, 103), api.OK},
		{pairs(1, 1, 3, 2), slip(0, 1), 95, places(104, 104), api.OK},
		{pairs(0, 0, 1, 1), slip(17, 0), 95, api.Interval{}, api.ErrConflict},
	} {
		w, e := align.Within(shown(), x.l, x.s, x.count)
		want(t, "Within", list(i, w, e), list(i, x.w, x.e))
	}
}

// TestShownConflicts checks the other part of example 3.
func TestShownConflicts(t *testing.T) {
	type two = [2]int
	for i, x := range []struct {
		l []align.Pair
		s align.Slip
		c []two
	}{
		{least(), slip(20, 3), nil},
		{least(), slip(20, 0), []two{{0, 1}}},
		{least(), slip(0, 0), []two{{0, 1}, {0, 2}, {1, 2}}},
		{least(), slip(0, 1), []two{{0, 1}, {0, 2}}}, // 5 and 3 are above 2, and 2 is not
		{pairs(0, 0, 3, 2), slip(0, 1), []two{{0, 1}}},
		{pairs(0, 0, 3, 2), slip(0, 2), nil},
		{pairs(1, 1, 3, 2), slip(0, 1), nil},
		{pairs(0, 0), slip(0, 0), nil},
		{nil, slip(0, 0), nil},
		// The rate over 145 counts: 4.93 and 4.06 are rounded up to 5, 3.915 to 4, and 2.9 to 3.
		{pairs(0, 0, 1, 1), slip(34, 0), nil},
		{pairs(0, 0, 1, 1), slip(28, 0), nil},
		{pairs(0, 0, 1, 1), slip(27, 0), []two{{0, 1}}},
		{pairs(0, 0, 1, 1), slip(20, 1), nil},
	} {
		c, e := align.Conflicts(shown(), x.l, x.s)
		want(t, "Conflicts", list(i, c, e), list(i, x.c, api.OK))
	}
}

// TestShownGuesses checks the first part of example 4.
func TestShownGuesses(t *testing.T) {
	for count, place := range map[int]int{
		240: 250, 300: 309, 90: 95, 95: 100, 392: 400, 0: 5, 96: 101, 94: 99, 167: 174, 168: 176, 239: 249, 241: 251, 391: 399, 393: 401, 100000000: 100000008,
	} {
		n, e := align.Guess(shown(), least(), count)
		want(t, "Guess", list(count, n, e), list(count, place, api.OK))
	}
	low := ride("a 3", "a 10")
	for count, place := range map[int]int{0: -7, 7: 0, 10: 3, 11: 4} {
		n, e := align.Guess(low, pairs(0, 0), count)
		want(t, "Guess below 0", list(count, n, e), list(count, place, api.OK))
	}
	high := ride("a 99999999", "a 0")
	n, e := align.Guess(high, pairs(0, 0), 100000000)
	want(t, "Guess above all places", list(n, e), list(199999999, api.OK))
	// From the middle to the greater one.
	slow := ride("a 0 a 1 a 3", "a 0 a 2 a 10")
	for count, place := range map[int]int{0: 0, 1: 1, 2: 1, 3: 1, 4: 2, 5: 2, 6: 2, 7: 2, 8: 3, 9: 3, 10: 3} {
		n, e := align.Guess(slow, pairs(0, 0, 1, 1, 2, 2), count)
		want(t, "Guess of slow places", list(count, n, e), list(count, place, api.OK))
	}
	great := ride("a 0 a 100000000", "a 0 a 99999999")
	for count, place := range map[int]int{1: 1, 49999999: 49999999, 50000000: 50000001, 99999998: 99999999} {
		n, e := align.Guess(great, pairs(0, 0, 1, 1), count)
		want(t, "Guess of a long ride", list(count, n, e), list(count, place, api.OK))
	}
}

// TestNoPairs checks alignments without pairs, and that all arguments are checked before.
func TestNoPairs(t *testing.T) {
	for i, n := range []int{0, 300, 100000000} {
		w, e := align.Within(shown(), nil, slip(20, 3), n)
		want(t, "Within", list(i, w, e), list(i, api.Interval{}, api.ErrEmpty))
		g, e := align.Guess(shown(), nil, n)
		want(t, "Guess", list(i, g, e), list(i, 0, api.ErrEmpty))
	}
	for i, b := range badBounds(0, api.MaxPlace) {
		w, e := align.Within(shown(), nil, slip(20, 3), b.x)
		want(t, "Within", list(i, w, e), list(i, api.Interval{}, api.ErrRange))
		g, e := align.Guess(shown(), nil, b.x)
		want(t, "Guess", list(i, g, e), list(i, 0, api.ErrRange))
	}
	w, e := align.Within(shown(), nil, slip(501, 0), 5)
	want(t, "Within", list(w, e), list(api.Interval{}, api.ErrRange))
	for i, b := range badRuns() {
		r, e := align.Registered(shown(), nil, b.x)
		want(t, "Registered", list(i, r, e), list(i, sample.Run{}, b.e))
	}
	r, e := align.Registered(shown(), nil, sample.Run{Name: "r"})
	want(t, "Registered", list(r, e), list(sample.Run{}, api.ErrEmpty))
	c, e := align.Conflicts(shown(), nil, slip(0, 0))
	turned, f := align.TurnedPairs(shown(), nil)
	want(t, "Conflicts and TurnedPairs", list(c, e, turned, f), list([][2]int(nil), api.OK, []align.Pair(nil), api.OK))
}

// somePlaced returns a ride, an alignment of it and a slip, where often no pairs conflict.
func somePlaced(g *rand.Rand) (align.Ride, []align.Pair, align.Slip) {
	most := 10 << g.IntN(10)
	r := someRide(g, 7, 1+g.IntN(2), most)
	if g.IntN(2) == 0 { // sights that are near the marks
		r.Sights = nil
		for _, m := range r.Marks {
			count := m.Place + g.IntN(5)
			if k := len(r.Sights) - 1; k < 0 || r.Sights[k].Count < count {
				r.Sights = append(r.Sights, align.Sight{Kind: m.Kind, Count: count})
			}
		}
	}
	return r, somePairs(g, r), slip(g.IntN(501)>>g.IntN(9), g.IntN(1+most>>g.IntN(8)))
}

// TestAllPlaces checks Within, Conflicts and Guess against the definitions.
func TestAllPlaces(t *testing.T) {
	g := source(3)
	found, contradictions := 0, 0
	for i := range 6000 {
		r, l, s := somePlaced(g)
		if len(l) == 0 {
			continue
		}
		count := g.IntN(1 + 2*r.Sights[len(r.Sights)-1].Count)
		wanted, e := placesBy(r, l[0], s, count), api.OK
		for _, p := range l {
			w := placesBy(r, p, s, count)
			wanted = places(max(wanted.Low, w.Low), min(wanted.High, w.High))
		}
		if wanted.Low > wanted.High {
			wanted, e = api.Interval{}, api.ErrConflict
			contradictions++
		} else {
			found++
		}
		w, f := align.Within(r, l, s, count)
		want(t, "Within", list(i, r, l, s, count, w, f), list(i, r, l, s, count, wanted, e))

		var conflicts [][2]int
		for a, p := range l {
			for b, q := range l {
				marks := distance(r.Marks[p.Mark].Place, r.Marks[q.Mark].Place)
				counts := distance(r.Sights[p.Sight].Count, r.Sights[q.Sight].Count)
				if a < b && distance(marks, counts) > 2*s.Blur+upwards(ratio(counts*s.Rate, 1000)) {
					conflicts = append(conflicts, [2]int{a, b})
				}
			}
		}
		c, f := align.Conflicts(r, l, s)
		want(t, "Conflicts", list(i, r, l, s, c, f), list(i, r, l, s, conflicts, api.OK))
		n, f := align.Guess(r, l, count)
		want(t, "Guess", list(i, r, l, count, n, f), list(i, r, l, count, guessOf(r, l, count), api.OK))
	}
	if found < 1000 || contradictions < 1000 {
		t.Errorf("too few counts have places, or none: %v, %v", found, contradictions)
	}
}

// guessOf returns the guess of a count by an alignment with at least one pair.
func guessOf(r align.Ride, l []align.Pair, count int) int {
	at := func(i int) (int, int) { return r.Marks[l[i].Mark].Place, r.Sights[l[i].Sight].Count }
	first, firstCount := at(0)
	last, lastCount := at(len(l) - 1)
	switch {
	case count <= firstCount:
		return first - (firstCount - count)
	case count >= lastCount:
		return last + (count - lastCount)
	}
	for i := 0; ; i++ {
		a, from := at(i)
		b, to := at(i + 1)
		if from <= count && count <= to {
			x := ratio((count-from)*(b-a), to-from)
			return nearest(x.Add(x, ratio(a, 1)))
		}
	}
}
