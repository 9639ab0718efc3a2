package align_test

import (
	"math/rand/v2"
	"slices"
	"testing"

	"versine/align"
	"versine/api"
	"versine/sample"
)

// TestNothingCostsLess checks that no alignment costs less than the least one, nor than what a table proves, and that the table of the ride proves just the least cost.
func TestNothingCostsLess(t *testing.T) {
	g := source(20)
	proofs := 0
	for range 400 {
		r, c := someRide(g, 24, 1+g.IntN(3), 200), someCosts(g, 1<<g.IntN(7))
		l, cost, e := align.Aligned(r, c)
		n, f := align.Cost(r, c, l)
		table, e1 := align.Table(r, c)
		bound, e2 := align.CheckTable(r, c, table)
		want(t, "the least cost", list(r, c, e, n, f, e1, bound, e2), list(r, c, api.OK, cost, api.OK, api.OK, cost, api.OK))
		for range 20 {
			other := somePairs(g, r)
			if n, e := align.Cost(r, c, other); e != api.OK || n < cost {
				t.Errorf("the cost of %v of %v by %v: got %v, %v, and %v for %v", other, r, c, n, e, cost, l)
			}
			bound, e := align.CheckTable(r, c, changed(g, table, 0, 9))
			if e == api.OK {
				proofs++
			}
			if bound > cost {
				t.Errorf("the bound of a table of %v by %v: got %v, and the cost %v of %v", r, c, bound, cost, l)
			}
		}
	}
	if proofs < 1000 {
		t.Errorf("too few tables are proofs: %v", proofs)
	}
}

// TestSurePairs checks that the least alignment has all sure pairs, and that a ride without the sight of one, which is then missed, costs more.
func TestSurePairs(t *testing.T) {
	g := source(21)
	sure := 0
	for range 2000 {
		r, c := someRide(g, 12, 1+g.IntN(3), 60), someCosts(g, 1<<g.IntN(6))
		l, cost, _ := align.Aligned(r, c)
		surest, e := align.Sure(r, c)
		want(t, "the error of Sure", list(r, c, e), list(r, c, api.OK))
		for _, p := range surest {
			sure++
			if !slices.Contains(l, p) {
				t.Errorf("the least alignment of %v by %v: got %v without the sure pair %v", r, c, l, p)
			}
		}
		if len(surest) == 0 {
			continue
		}
		p := surest[g.IntN(len(surest))]
		without := r
		without.Sights = slices.Clone(r.Sights)
		without.Sights[p.Sight].Kind = "other"
		if _, n, e := align.Aligned(without, c); e != api.OK || n <= cost {
			t.Errorf("the cost of %v by %v without the sure pair %v: got %v, %v, which is not above %v", r, c, p, n, e, cost)
		}
	}
	if sure < 1000 {
		t.Errorf("too few pairs are sure: %v", sure)
	}
}

// truth is a ride with its odometer: the counts of its sights and of some places between, and the place at which each one is.
type truth struct {
	ride   align.Ride
	pairs  []align.Pair
	slip   align.Slip
	counts []int
	places []int
}

// someTruth returns a ride whose odometer is wrong by at most its rate between any two counts, and whose sights are at most the blur away from their marks.
func someTruth(g *rand.Rand) truth {
	x := truth{slip: slip(g.IntN(501), g.IntN(30))}
	count, place := g.IntN(50), 2000+g.IntN(1000)
	for range between(g, 1, 12) {
		x.counts, x.places = append(x.counts, count), append(x.places, place)
		mark := place + between(g, -x.slip.Blur, x.slip.Blur)
		if g.IntN(5) == 0 { // as far away as permitted
			mark = place + x.slip.Blur*(2*g.IntN(2)-1)
		}
		k := len(x.ride.Marks)
		if g.IntN(2) == 0 && (k == 0 || x.ride.Marks[k-1].Place < mark) {
			x.ride.Marks = append(x.ride.Marks, align.Mark{Kind: "a", Place: mark})
			x.ride.Sights = append(x.ride.Sights, align.Sight{Kind: "a", Count: count})
			x.pairs = append(x.pairs, align.Pair{Sight: k, Mark: k})
		}
		d := between(g, 1, 200)
		wrong := d * x.slip.Rate / 1000 // rounded down, so that it is at most the rate
		if g.IntN(2) == 0 {
			wrong = between(g, -wrong, wrong)
		}
		count, place = count+d, place+d+wrong
	}
	return x
}

// TestTruePlacesAreWithin checks that the true place of each count is within, and that then no two pairs conflict.
func TestTruePlacesAreWithin(t *testing.T) {
	g := source(22)
	ends := 0
	for range 3000 {
		x := someTruth(g)
		conflicts, e := align.Conflicts(x.ride, x.pairs, x.slip)
		want(t, "Conflicts", list(x, conflicts, e), list(x, [][2]int(nil), api.OK))
		for i, count := range x.counts {
			if len(x.pairs) == 0 {
				continue
			}
			w, e := align.Within(x.ride, x.pairs, x.slip, count)
			if e != api.OK || x.places[i] < w.Low || x.places[i] > w.High {
				t.Errorf("the places of %v in %v: got %v, %v, without %v", count, x, w, e, x.places[i])
			}
			if x.places[i] == w.Low || x.places[i] == w.High {
				ends++
			}
		}
	}
	if ends < 300 {
		t.Errorf("too few places are as far away as permitted: %v", ends)
	}
}

// TestOtherDirection checks that turned rides have alignments of the same cost, sure pairs, conflicts and places, but mirrored, and that two turns change nothing.
func TestOtherDirection(t *testing.T) {
	g := source(23)
	mirrored := 0
	for range 3000 {
		r, l, s := somePlaced(g)
		c := someCosts(g, 1<<g.IntN(6))
		place, count := 20000+g.IntN(9), 30000+g.IntN(9)
		turned, e1 := align.Turned(r, place, count)
		turnedPairs, e2 := align.TurnedPairs(r, l)
		again, e3 := align.Turned(turned, place, count)
		againPairs, e4 := align.TurnedPairs(turned, turnedPairs)
		want(t, "two turns", list(e1, e2, again, e3, againPairs, e4), list(api.OK, api.OK, r, api.OK, l, api.OK))

		cost, e1 := align.Cost(r, c, l)
		other, e2 := align.Cost(turned, c, turnedPairs)
		want(t, "the cost of a turned alignment", list(r, c, l, other, e1, e2), list(r, c, l, cost, api.OK, api.OK))
		_, cost, e1 = align.Aligned(r, c)
		_, other, e2 = align.Aligned(turned, c)
		want(t, "the least cost of a turned ride", list(r, c, other, e1, e2), list(r, c, cost, api.OK, api.OK))
		sure, e1 := align.Sure(r, c)
		turnedSure, e2 := align.TurnedPairs(r, sure)
		otherSure, e3 := align.Sure(turned, c)
		want(t, "the sure pairs of a turned ride", list(r, c, otherSure, e1, e2, e3), list(r, c, turnedSure, api.OK, api.OK, api.OK))

		conflicts, e1 := align.Conflicts(r, l, s)
		otherConflicts, e2 := align.Conflicts(turned, turnedPairs, s)
		want(t, "the conflicts of a turned alignment", list(r, l, s, len(otherConflicts), e1, e2), list(r, l, s, len(conflicts), api.OK, api.OK))
		at := g.IntN(15000)
		w, e1 := align.Within(r, l, s, at)
		v, e2 := align.Within(turned, turnedPairs, s, count-at)
		if e1 == api.OK {
			mirrored++
			w = places(place-w.High, place-w.Low)
		}
		want(t, "the places of a turned alignment", list(r, l, s, at, v, e2), list(r, l, s, at, w, e1))
	}
	if mirrored < 1000 {
		t.Errorf("too few counts have places: %v", mirrored)
	}
}

// TestGuessesNeverDescend checks it, and that a pair's count has its mark's place.
func TestGuessesNeverDescend(t *testing.T) {
	g := source(24)
	for range 1000 {
		r, l, _ := somePlaced(g)
		if len(l) == 0 {
			continue
		}
		last := -1 << 62
		from := max(0, r.Sights[l[0].Sight].Count-20)
		for count := from; count < from+300; count++ {
			n, e := align.Guess(r, l, count)
			if e != api.OK || n < last {
				t.Errorf("Guess of %v in %v, %v: got %v, %v below %v", count, r, l, n, e, last)
			}
			last = n
		}
		for _, p := range l {
			n, e := align.Guess(r, l, r.Sights[p.Sight].Count)
			want(t, "Guess of a pair's count", list(r, l, p, n, e), list(r, l, p, r.Marks[p.Mark].Place, api.OK))
		}
	}
}

// someWave returns a run of n samples without holes that is like itself at no other shift.
func someWave(g *rand.Rand, n int) sample.Run {
	integers := make([]int, n)
	for i := range integers {
		integers[i] = between(g, -16384, 16384)
	}
	return run(1000+g.IntN(1000), integers...)
}

// TestMovedRunsAreMatched checks that runs that are moved apart are matched by as much, also if places of both are unknown.
func TestMovedRunsAreMatched(t *testing.T) {
	g := source(25)
	for range 150 {
		a := someWave(g, between(g, 40, 120))
		by := between(g, -256, 256)
		if g.IntN(2) == 0 {
			by = between(g, -20, 20)
		}
		b := a
		b.Samples = slices.Clone(a.Samples)
		if g.IntN(2) == 0 {
			k := g.IntN(len(b.Samples) - 5)
			clear(b.Samples[k : k+5])
			b.Holes = spans(k, k+5)
		}
		moved, e := align.Moved(b, by)
		want(t, "Moved", list(e, moved.First), list(api.OK, b.First+by))
		shift, d, e := align.Matched(moved, a, 256, 20)
		want(t, "Matched", list(by, a, shift, d, e), list(by, a, by, api.Ratio{Num: 0, Den: 1}, api.OK))
		shift, d, e = align.Matched(a, moved, 256, 20)
		want(t, "Matched the other way", list(by, a, shift, d, e), list(by, a, -by, api.Ratio{Num: 0, Den: 1}, api.OK))
		back, e := align.Moved(moved, -by)
		want(t, "Moved back", list(back, e), list(b, api.OK))
		apart, e := align.Apart(back, a, 0)
		want(t, "Apart of one run", list(apart, e), list([]api.Span(nil), api.OK))
	}
}

// TestTextsComeBack checks that rides are parsed as they were printed, if their text is not too long.
func TestTextsComeBack(t *testing.T) {
	g := source(26)
	for range 1000 {
		r := someRide(g, 1<<g.IntN(7), 1+g.IntN(20), 1000)
		if g.IntN(2) == 0 {
			r, _ = align.Turned(r, api.MaxPlace, api.MaxPlace-1)
		}
		s, e := align.Print(r)
		back, line, f := align.Parse(s)
		want(t, "Parse of Print", list(e, back, line, f), list(api.OK, r, 0, api.OK))
		again, e := align.Print(back)
		want(t, "Print again", list(again, e), list(s, api.OK))
	}
}
