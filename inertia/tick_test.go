package inertia_test

import (
	"math"
	"math/rand/v2"
	"slices"
	"testing"

	"versine/api"
	"versine/inertia"
)

func TestCheckTicks(t *testing.T) {
	for i, l := range [][]inertia.Tick{
		nil,
		{sure(0, 0)},
		{sure(0, 0), sure(0, 5), sure(api.MaxPlace, 0), sure(api.MaxPlace, 7)},
		{tick(5, 1024, -1024, minusZero)},
		constant(sure(7, 7), 1024),
	} {
		want(t, "CheckTicks", list(i, inertia.CheckTicks(l)), list(i, api.OK))
	}
	for i, x := range badTickLists() {
		want(t, "CheckTicks of bad ticks", list(i, inertia.CheckTicks(x.l)), list(i, x.e))
	}
}

// vote is the vote of a triple, and whether it is known: two steps of a sorted list of integers.
func vote(x triple, limit int) (int, bool) {
	l := integers(x[:])
	slices.Sort(l)
	return l[1], l[1]-l[0] <= limit || l[2]-l[1] <= limit
}

// orders returns all orders of a triple.
func orders(a, b, c float32) []triple {
	return []triple{{a, b, c}, {a, c, b}, {b, a, c}, {b, c, a}, {c, a, b}, {c, b, a}}
}

func TestVoted(t *testing.T) {
	for i, x := range []struct {
		a, b, c float32
		limit   int
		vote    float32
		known   bool
	}{
		{5, 5.25, 9, 4, 5.25, true},
		{5, 5.25, 9, 3, 0, false},
		{1, 5, 5.25, 4, 5, true},
		{1, 5, 5.25, 3, 0, false},
		{5, 5, 9, 0, 5, true},
		{5, 9, 9, 0, 9, true},
		{5, 5, 5, 0, 5, true},
		{0, minusZero, 9, 0, 0, true},
		{minusZero, minusZero, minusZero, 0, 0, true},
		{-1, 0, 1, 15, 0, false},
		{-1, 0, 1, 16, 0, true},
		{-3, -2, -1, 16, -2, true},
		{-1024, 0, 1024, 16383, 0, false},
		{-1024, 0, 1024, 16384, 0, true},
		{-1024, -1024, 1024, 0, -1024, true},
		{-1024, 1024, 1024, 0, 1024, true},
		{0, 0.0625, 0.125, 0, 0, false},
		{0, 0.0625, 0.125, 1, 0.0625, true},
		{0, 0.0625, 0.1875, 1, 0.0625, true},
		{0, 0.125, 0.1875, 1, 0.125, true},
	} {
		for _, o := range orders(x.a, x.b, x.c) {
			var unknown []api.Span
			if !x.known {
				unknown = []api.Span{span(0, 1)}
			}
			votes, spans, e := inertia.Voted([]inertia.Tick{{Reading: o}}, x.limit)
			want(t, "Voted", list(i, o, votes, spans, e), list(i, o, []float32{x.vote}, unknown, api.OK))
		}
	}
	votes, spans, e := inertia.Voted(nil, 0)
	want(t, "Voted of nothing", list(votes, spans, e), list([]float32{}, []api.Span{}, api.OK))
}

func TestVotedSpans(t *testing.T) {
	for i, x := range []struct {
		l     []inertia.Tick
		votes []float32
		spans []api.Span
	}{
		{[]inertia.Tick{torn(1), torn(2), torn(2)}, []float32{0, 0, 0}, []api.Span{span(0, 3)}},
		{[]inertia.Tick{torn(1), sure(1, 16), torn(9)}, []float32{0, 1, 0}, []api.Span{span(0, 1), span(2, 3)}},
		{[]inertia.Tick{sure(1, 16), torn(1), torn(9), sure(9, 0), sure(9, 0), torn(10)}, []float32{1, 0, 0, 0, 0, 0}, []api.Span{span(1, 3), span(5, 6)}},
		{[]inertia.Tick{sure(1, 16), sure(1, -16)}, []float32{1, -1}, nil},
		{constant(torn(1), 1024), make([]float32, 1024), []api.Span{span(0, 1024)}},
		{constant(sure(1, 16384), 1024), constant[float32](1024, 1024), nil},
	} {
		votes, spans, e := inertia.Voted(x.l, 159)
		want(t, "Voted", list(i, votes, spans, e), list(i, x.votes, x.spans, api.OK))
	}
	votes, spans, e := inertia.Voted([]inertia.Tick{torn(1), sure(2, 5), torn(3)}, 160)
	want(t, "Voted by a greater limit", list(votes, spans, e), list(signal(0, 5, 0), []api.Span{}, api.OK))
	g := source(4)
	for range 2000 {
		l, limit := someTicks(g, 12, 6), g.IntN(4)
		var wanted []int
		unknown := []api.Span{}
		for i, x := range l {
			n, is := vote(x.Reading, limit)
			switch {
			case is:
			case len(unknown) > 0 && unknown[len(unknown)-1].To == i:
				unknown[len(unknown)-1].To++
				n = 0
			default:
				unknown = append(unknown, span(i, i+1))
				n = 0
			}
			wanted = append(wanted, n)
		}
		votes, spans, e := inertia.Voted(l, limit)
		want(t, "Voted", list(l, limit, votes, spans, e), list(l, limit, signal(wanted...), unknown, api.OK))
	}
}

// someTicks returns up to so many ticks with integers from -bound to bound.
func someTicks(g *rand.Rand, most, bound int) []inertia.Tick {
	l := make([]inertia.Tick, g.IntN(most+1))
	place := g.IntN(4)
	for i := range l {
		x := signal(someIntegers(g, 3, bound)...)
		l[i] = tick(place, x[0], x[1], x[2])
		place += max(0, between(g, -1, 4))
	}
	return l
}

func TestVotedOfBadArguments(t *testing.T) {
	for i, x := range badTickLists() {
		for _, limit := range []int{-1, 0, 16384, 16385} {
			votes, spans, e := inertia.Voted(x.l, limit)
			want(t, "Voted of bad ticks", list(i, votes, spans, e), list(i, []float32(nil), []api.Span(nil), x.e))
		}
	}
	for _, limit := range []int{-1, 16385, math.MinInt, math.MaxInt} {
		votes, spans, e := inertia.Voted([]inertia.Tick{torn(1)}, limit)
		want(t, "Voted by a bad limit", list(limit, votes, spans, e), list(limit, []float32(nil), []api.Span(nil), api.ErrRange))
	}
	for _, limit := range []int{0, 16384} {
		_, _, e := inertia.Voted([]inertia.Tick{torn(1)}, limit)
		want(t, "Voted by an extreme limit", list(limit, e), list(limit, api.OK))
	}
}

func TestStepped(t *testing.T) {
	const most = api.MaxPlace
	shown := []inertia.Tick{tick(10, 2, 2, 2), tick(14, 4, 4, 9), tick(14, 6, 6, 6)}
	for i, x := range []struct {
		l      []inertia.Tick
		places api.Span
		want   []float32
		e      api.Errno
	}{
		{shown, span(10, 15), []float32{2, 2.5, 3, 3.5, 6}, api.OK},
		{shown, span(14, 15), []float32{6}, api.OK},
		{shown, span(12, 14), []float32{3, 3.5}, api.OK},
		{shown, span(9, 11), nil, api.ErrNone},
		{shown, span(14, 16), nil, api.ErrNone},
		{shown, span(9, 10), nil, api.ErrNone},
		{shown, span(15, 16), nil, api.ErrNone},
		{shown, span(0, 4096), nil, api.ErrNone},
		// The empty span has no places, wherever it is.
		{shown, span(9, 9), nil, api.OK},
		{shown, span(12, 12), nil, api.OK},
		{nil, span(0, 0), nil, api.OK},
		{nil, span(most, most), nil, api.OK},
		{nil, span(0, 1), nil, api.ErrNone},
		// A tick whose vote is unknown plays no part.
		{[]inertia.Tick{tick(10, 2, 2, 2), tick(14, 1, 4, 9), tick(14, 6, 6, 6)}, span(12, 15), []float32{4, 5, 6}, api.OK},
		{[]inertia.Tick{tick(10, 2, 2, 2), tick(14, 6, 6, 6), tick(14, 1, 4, 9)}, span(12, 15), []float32{4, 5, 6}, api.OK},
		{[]inertia.Tick{sure(10, 0), torn(11), torn(12), sure(14, 8)}, span(10, 15), signal(0, 2, 4, 6, 8), api.OK},
		{[]inertia.Tick{torn(10), sure(11, 3), torn(12)}, span(11, 12), signal(3), api.OK},
		{[]inertia.Tick{torn(10), sure(11, 3), torn(12)}, span(10, 12), nil, api.ErrNone},
		{[]inertia.Tick{torn(10), sure(11, 3), torn(12)}, span(11, 13), nil, api.ErrNone},
		{[]inertia.Tick{torn(10), torn(11)}, span(10, 11), nil, api.ErrNone},
		// Before a place with several ticks its first one counts, at it and behind it the last one.
		{[]inertia.Tick{sure(0, 0), sure(2, 8), sure(2, 100), sure(2, 16), sure(4, 0)}, span(0, 5), signal(0, 4, 16, 8, 0), api.OK},
		{[]inertia.Tick{sure(0, 50), sure(0, 0), sure(2, 8), torn(2), sure(4, 0), sure(4, 50)}, span(0, 5), signal(0, 4, 8, 4, 50), api.OK},
		// From the middle to the greater one.
		{[]inertia.Tick{sure(0, 0), sure(2, 1)}, span(0, 3), signal(0, 1, 1), api.OK},
		{[]inertia.Tick{sure(0, 0), sure(2, -1)}, span(0, 3), signal(0, 0, -1), api.OK},
		{[]inertia.Tick{sure(0, 1), sure(3, 0), sure(6, -1)}, span(0, 7), signal(1, 1, 0, 0, 0, -1, -1), api.OK},
		// The greatest places and integers; the last place that a span has is below MaxPlace.
		{[]inertia.Tick{sure(0, -16384), sure(most, 16384)}, span(most/2-1, most/2+2), signal(0, 0, 0), api.OK},
		{[]inertia.Tick{sure(0, -16384), sure(most, 16384)}, span(most-1, most), signal(16384), api.OK},
		{[]inertia.Tick{sure(0, -16384), sure(most, 16384)}, span(0, 2), signal(-16384, -16384), api.OK},
		{[]inertia.Tick{sure(0, -16384), sure(most, 16384)}, span(1525, 1527), signal(-16384, -16383), api.OK},
		{[]inertia.Tick{sure(0, 5), sure(most, 5)}, span(0, 4096), constant(signal(5)[0], 4096), api.OK},
		{[]inertia.Tick{sure(0, 5), sure(most, 5)}, span(most-4096, most), constant(signal(5)[0], 4096), api.OK},
	} {
		got, e := inertia.Stepped(x.l, 0, x.places)
		want(t, "Stepped", list(i, got, e), list(i, x.want, x.e))
	}
	got, e := inertia.Stepped([]inertia.Tick{torn(3), sure(5, 4)}, 160, span(3, 6))
	want(t, "Stepped by a greater limit", list(got, e), list(signal(0, 2, 4), api.OK))
}

// readingAt is the reading at a place as the chapter defines it, with lists of all ticks that count.
func readingAt(l []inertia.Tick, limit, place int) (int, bool) {
	var before, at, after []inertia.Tick
	for _, x := range l {
		if _, is := vote(x.Reading, limit); !is {
			continue
		}
		switch {
		case x.Place < place:
			before = append(before, x)
		case x.Place == place:
			at = append(at, x)
		default:
			after = append(after, x)
		}
	}
	if len(at) > 0 {
		return vote(at[len(at)-1].Reading, limit)
	}
	if len(before) == 0 || len(after) == 0 {
		return 0, false
	}
	p, q := before[len(before)-1], after[0]
	a, _ := vote(p.Reading, limit)
	b, _ := vote(q.Reading, limit)
	return nearest(ratio(a*(q.Place-place)+b*(place-p.Place), q.Place-p.Place)), true
}

func TestSteppedByDefinition(t *testing.T) {
	g := source(5)
	whole := 0
	for range 5000 {
		l, limit := someTicks(g, 10, 8), g.IntN(5)
		from := g.IntN(20)
		places := span(from, from+g.IntN(6))
		var wanted []int
		wantedError := api.OK
		for p := places.From; p < places.To; p++ {
			n, is := readingAt(l, limit, p)
			if !is {
				wantedError = api.ErrNone
			}
			wanted = append(wanted, n)
		}
		if wantedError != api.OK {
			wanted = nil
		} else if len(wanted) > 0 {
			whole++
		}
		got, e := inertia.Stepped(l, limit, places)
		want(t, "Stepped", list(l, limit, places, got, e), list(l, limit, places, signal(wanted...), wantedError))
	}
	if whole < 500 {
		t.Error("too few spans have readings: ", whole)
	}
}

func TestSteppedOfBadArguments(t *testing.T) {
	const most = api.MaxPlace
	l := []inertia.Tick{sure(0, 5), sure(most, 5)}
	bad := map[api.Span]api.Errno{
		span(-1, 0):                       api.ErrSpan,
		span(-1, -1):                      api.ErrSpan,
		span(11, 10):                      api.ErrSpan,
		span(0, most+1):                   api.ErrSpan,
		span(most+1, most+1):              api.ErrSpan,
		span(-5, 9000):                    api.ErrSpan,
		span(9000, 0):                     api.ErrSpan,
		span(math.MinInt, math.MaxInt):    api.ErrSpan,
		span(math.MaxInt, math.MinInt):    api.ErrSpan,
		span(0, math.MaxInt):              api.ErrSpan,
		span(math.MinInt, 5):              api.ErrSpan,
		span(0, 4097):                     api.ErrMany,
		span(0, most):                     api.ErrMany,
		span(most-4097, most):             api.ErrMany,
		span(1, 1+api.MaxSamples+1):       api.ErrMany,
		span(most-4096, most):             api.OK,
		span(most, most):                  api.OK,
		span(0, 0):                        api.OK,
		span(most-api.MaxSamples-5, most): api.ErrMany,
	}
	for places, wanted := range bad {
		_, e := inertia.Stepped(l, 0, places)
		want(t, "Stepped of a bad span", list(places, e), list(places, wanted))
		if wanted == api.OK {
			continue
		}
		got, e := inertia.Stepped(nil, 0, places) // before ErrNone
		want(t, "Stepped without ticks", list(places, got, e), list(places, []float32(nil), wanted))
		for _, limit := range []int{-1, 16385, math.MinInt, math.MaxInt} {
			got, e := inertia.Stepped(l, limit, places)
			want(t, "Stepped by a bad limit", list(places, limit, got, e), list(places, limit, []float32(nil), api.ErrRange))
		}
		for i, x := range badTickLists() {
			got, e := inertia.Stepped(x.l, -1, places)
			want(t, "Stepped of bad ticks", list(i, places, got, e), list(i, places, []float32(nil), x.e))
		}
	}
	for i, x := range badTickLists() {
		got, e := inertia.Stepped(x.l, 0, span(0, 0))
		want(t, "Stepped of bad ticks", list(i, got, e), list(i, []float32(nil), x.e))
	}
	_, e := inertia.Stepped(l, 16384, span(0, 1))
	want(t, "Stepped by the greatest limit", list(e), list(api.OK))
}
