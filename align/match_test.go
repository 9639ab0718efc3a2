package align_test

import (
	"math/big"
	"testing"

	"versine/align"
	"versine/api"
	"versine/sample"
)

// differenceOf returns the difference of two runs at a shift, and the number of places that they have in common, by the definition.
func differenceOf(a, b sample.Run, shift int) (*big.Rat, int) {
	sum, n := 0, 0
	other := known(b)
	for p, x := range known(a) {
		if y, isKnown := other[p-shift]; isKnown {
			sum += distance(x, y)
			n++
		}
	}
	return ratio(sum, max(n, 1)), n
}

// lowest returns a ratio in lowest terms.
func lowest(x *big.Rat) api.Ratio {
	return api.Ratio{Num: int(x.Num().Int64()), Den: int(x.Denom().Int64())}
}

// shownRuns returns the runs of example 6.
func shownRuns() (sample.Run, sample.Run) {
	return run(10, 0, 16, 64, 144), run(12, 16, 64, 144)
}

// TestShownMatch checks example 6.
func TestShownMatch(t *testing.T) {
	a, b := shownRuns()
	n, r, e := align.Matched(a, b, 3, 3)
	want(t, "Matched", list(n, r, e), list(-1, api.Ratio{Num: 0, Den: 1}, api.OK))
	r, e = align.Difference(a, b, 0, 2)
	want(t, "Difference", list(r, e), list(api.Ratio{Num: 64, Den: 1}, api.OK))
	l, e := align.Apart(a, b, 4)
	want(t, "Apart", list(l, e), list(spans(13, 14), api.OK))
}

// TestDifference checks differences at shifts, and of too few places.
func TestDifference(t *testing.T) {
	a, b := shownRuns()
	for i, x := range []struct {
		a, b         sample.Run
		shift, least int
		r            api.Ratio
		e            api.Errno
	}{
		{a, b, 0, 1, api.Ratio{Num: 64, Den: 1}, api.OK},
		{a, b, 0, 3, api.Ratio{}, api.ErrNone},
		{a, b, -1, 3, api.Ratio{Num: 0, Den: 1}, api.OK},
		{a, b, -1, 4, api.Ratio{}, api.ErrNone},
		{a, b, -2, 3, api.Ratio{Num: 48, Den: 1}, api.OK}, // 16, 48 and 80 by 3
		{a, b, 1, 1, api.Ratio{Num: 128, Den: 1}, api.OK},
		{a, b, 2, 1, api.Ratio{}, api.ErrNone},
		{a, b, -4, 1, api.Ratio{Num: 144, Den: 1}, api.OK},
		{a, b, -5, 1, api.Ratio{}, api.ErrNone},
		{b, a, 1, 3, api.Ratio{Num: 0, Den: 1}, api.OK},
		{b, a, 0, 2, api.Ratio{Num: 64, Den: 1}, api.OK},
		{run(5, 1, none, 3), run(5, 2, 9, 5), 0, 2, api.Ratio{Num: 3, Den: 2}, api.OK},
		{run(5, 1, none, 3), run(5, 2, 9, 5), 0, 3, api.Ratio{}, api.ErrNone},
		{run(5, 2, 9, 5), run(5, 1, none, 3), 0, 2, api.Ratio{Num: 3, Den: 2}, api.OK},
		{run(5, 2, 9, none), run(5, 1, none, 3), 0, 1, api.Ratio{Num: 1, Den: 1}, api.OK},
		{run(5, 2, none), run(5, none, 3), 0, 1, api.Ratio{}, api.ErrNone},
		{run(5, 2, 3), run(5), 0, 1, api.Ratio{}, api.ErrNone},
		{run(5), run(5, 2, 3), 0, 1, api.Ratio{}, api.ErrNone},
		{run(256, 7), run(0, 4), 256, 1, api.Ratio{Num: 3, Den: 1}, api.OK},
		{run(0, 7), run(256, 4), -256, 1, api.Ratio{Num: 3, Den: 1}, api.OK},
		{run(0, 16384, 16384), run(0, -16384, -16384), 0, 2, api.Ratio{Num: 32768, Den: 1}, api.OK},
		{run(0, constant(16384, 4096)...), run(0, constant(-16384, 4096)...), 0, 4096, api.Ratio{Num: 32768, Den: 1}, api.OK},
	} {
		r, e := align.Difference(x.a, x.b, x.shift, x.least)
		want(t, "Difference", list(i, r, e), list(i, x.r, x.e))
	}
}

// TestMatched checks shifts of equal differences, and too few places.
func TestMatched(t *testing.T) {
	a, b := shownRuns()
	zero := api.Ratio{Num: 0, Den: 1}
	for i, x := range []struct {
		a, b        sample.Run
		most, least int
		shift       int
		r           api.Ratio
		e           api.Errno
	}{
		{a, b, 3, 4, 0, api.Ratio{}, api.ErrNone},
		{a, b, 0, 3, 0, api.Ratio{}, api.ErrNone},
		{a, b, 0, 2, 0, api.Ratio{Num: 64, Den: 1}, api.OK},
		{a, b, 1, 1, -1, zero, api.OK},
		{b, a, 1, 1, 1, zero, api.OK},
		{b, a, 0, 1, 0, api.Ratio{Num: 64, Den: 1}, api.OK},
		// Of equal differences the one with the least absolute value, and then the lesser one.
		{run(10, 5, 5, 5, 5), run(10, 5, 5, 5, 5), 3, 1, 0, zero, api.OK},
		{run(10, 5, 5, 5, 5), run(12, 5, 5), 3, 2, 0, zero, api.OK},
		{run(10, 5, 9, 5), run(10, 9, 8, 9), 2, 2, -1, api.Ratio{Num: 3, Den: 2}, api.OK},
		{run(10, 5, 9, 5), run(10, none, 5, none), 2, 1, -1, zero, api.OK},
		{run(10, 5, 9, 9, 9, 5), run(12, 5), 2, 1, -2, zero, api.OK},
		{run(10, 6, 9, 9, 9, 5), run(12, 5), 2, 1, 2, zero, api.OK},
		{run(10, 5, 9, 9, 9, 9, 5), run(12, 5), 3, 1, -2, zero, api.OK},
		{run(10, 5, 9, 9, 9, 5), run(13, 5), 3, 1, 1, zero, api.OK},
		// The least difference, not the least sum.
		{run(10, 0, 0, 0, 9, 4), run(10, 0, 0, 0, 5), 1, 1, 0, api.Ratio{Num: 1, Den: 1}, api.OK},
		{run(0, 5), run(256, 5), 255, 1, 0, api.Ratio{}, api.ErrNone},
		{run(0, 5), run(256, 5), 256, 1, -256, zero, api.OK},
		{run(256, 5), run(0, 5), 256, 1, 256, zero, api.OK},
		{run(256), run(0, 5), 256, 1, 0, api.Ratio{}, api.ErrNone},
		{run(256, none), run(256, 5), 256, 1, 0, api.Ratio{}, api.ErrNone},
	} {
		shift, r, e := align.Matched(x.a, x.b, x.most, x.least)
		want(t, "Matched", list(i, shift, r, e), list(i, x.shift, x.r, x.e))
	}
}

// TestApart checks runs that are apart, and by which limits.
func TestApart(t *testing.T) {
	a, b := shownRuns()
	holed := a
	holed.Samples, holed.Holes = []float32{0, 1, 4, 0}, spans(3, 4)
	for i, x := range []struct {
		a, b  sample.Run
		limit float32
		l     []api.Span
	}{
		{a, b, 2, spans(12, 14)},
		{b, a, 2, spans(12, 14)},
		{a, b, 3, spans(13, 14)},
		{a, b, 2.9375, spans(12, 14)},
		{a, b, 4.9375, spans(13, 14)},
		{a, b, 5, nil},
		{a, b, 0, spans(12, 14)},
		{a, b, minusZero, spans(12, 14)},
		{a, b, 1024, nil},
		{holed, b, 2, spans(12, 13)},
		{b, holed, 2, spans(12, 13)},
		{a, a, 0, nil},
		{run(5), run(5), 0, nil},
		{run(0, 1, 1, 1, 1, 1, 1, 1), run(0, 5, 5, 1, 5, none, 5, 5), 0.1875, spans(0, 2, 3, 4, 5, 7)},
		{run(0, 1, 1, 1, 1, 1, 1, 1), run(0, 5, 5, 1, 5, none, 5, 5), 0.25, nil},
		{run(7, 1, 1, none, 1, 1), run(0, 5, 5, 5, 5, 5, 5, 5, 5, 5, 5, 5, 5, 5), 0, spans(7, 9, 10, 12)},
		{run(3, -16384), run(3, 16384), 1024, spans(3, 4)},
		{run(3, -16384), run(3, 0), 1024, nil},
	} {
		l, e := align.Apart(x.a, x.b, x.limit)
		want(t, "Apart", list(i, l, e), list(i, x.l, api.OK))
	}
}

// TestAllRuns checks Difference, Matched and Apart against the definitions.
func TestAllRuns(t *testing.T) {
	g := source(6)
	matches := 0
	for i := range 4000 {
		a, b := someRun(g, 12, 9, 1+g.IntN(9)), someRun(g, 12, 9, 1+g.IntN(9))
		least, most := between(g, 1, 4), g.IntN(8)
		best, shift := (*big.Rat)(nil), 0
		for s := -most; s <= most; s++ {
			d, n := differenceOf(a, b, s)
			wanted, e := api.Ratio{}, api.ErrNone
			if n >= least {
				wanted, e = lowest(d), api.OK
				if c := 0; best != nil {
					c = d.Cmp(best)
					if c < 0 || c == 0 && distance(s, 0) < distance(shift, 0) {
						best, shift = d, s
					}
				} else {
					best, shift = d, s
				}
			}
			got, f := align.Difference(a, b, s, least)
			want(t, "Difference", list(i, a, b, s, least, got, f), list(i, a, b, s, least, wanted, e))
		}
		wanted, e := api.Ratio{}, api.ErrNone
		if best != nil {
			wanted, e = lowest(best), api.OK
			matches++
		}
		n, got, f := align.Matched(a, b, most, least)
		want(t, "Matched", list(i, a, b, most, least, n, got, f), list(i, a, b, most, least, shift, wanted, e))

		limit := g.IntN(8)
		var apart []api.Span
		for p := range 40 {
			x, isKnown := known(a)[p]
			y, isOther := known(b)[p]
			if !isKnown || !isOther || distance(x, y) <= limit {
				continue
			}
			if k := len(apart) - 1; k >= 0 && apart[k].To == p {
				apart[k].To++
			} else {
				apart = append(apart, span(p, p+1))
			}
		}
		l, f := align.Apart(a, b, float32(limit)/16)
		want(t, "Apart", list(i, a, b, limit, l, f), list(i, a, b, limit, apart, api.OK))
	}
	if matches < 1000 || matches > 3900 {
		t.Errorf("too few runs are matched, or all: %v", matches)
	}
}
