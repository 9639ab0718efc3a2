package chord_test

import (
	"math"
	"slices"
	"testing"

	"versine/api"
	"versine/chord"
	"versine/sample"
)

func TestCheckChord(t *testing.T) {
	lengths := []int{math.MinInt, -32, -1, 33, 64, math.MaxInt}
	for n := range 33 {
		lengths = append(lengths, n)
	}
	for _, before := range lengths {
		for _, after := range lengths {
			e := api.ErrRange
			if 1 <= before && before <= 32 && 1 <= after && after <= 32 {
				e = api.OK
			}
			want(t, "CheckChord", list(before, after, chord.CheckChord(arms(before, after))), list(before, after, e))
		}
	}
}

func TestCheckTrace(t *testing.T) {
	for i, x := range []chord.Trace{
		{},
		squares(),
		torn(),
		trace(api.MaxPlace, nil),
		trace(api.MaxPlace-1, []int{1}),
		trace(api.MaxPlace-4096, constant(-1<<30, 4096)),
		trace(0, []int{1 << 30, -1 << 30}),
		trace(0, []int{0, 0, 0, 0}, span(0, 1), span(2, 4)),
		trace(0, []int{0, 5, 0}, span(0, 1), span(2, 3)),
		trace(0, constant(0, 4096), span(0, 4096)),
	} {
		want(t, "CheckTrace", list(i, chord.CheckTrace(x)), list(i, api.OK))
	}
	for i, x := range badTraces() {
		want(t, "CheckTrace of a bad trace", list(i, chord.CheckTrace(x.t)), list(i, x.e))
	}
}

func TestTraced(t *testing.T) {
	const least = 1.0 / 16
	minusZero := float32(math.Copysign(0, -1))
	for i, x := range []struct {
		r sample.Run
		t chord.Trace
	}{
		{sample.Run{Name: "r", First: 7, Samples: []float32{1, 0, -least}, Holes: []api.Span{span(1, 2)}}, trace(7, []int{16, 0, -1}, span(1, 2))},
		{sample.Run{Name: "r", First: api.MaxPlace}, trace(api.MaxPlace, nil)},
		{sample.Run{Name: "r", Samples: []float32{1024, -1024, 1023.9375, least}}, trace(0, []int{16384, -16384, 16383, 1})},
		{sample.Run{Name: "r", First: 1, Samples: []float32{0, minusZero, 2, 0}, Holes: []api.Span{span(0, 2), span(3, 4)}}, trace(1, []int{0, 0, 32, 0}, span(0, 2), span(3, 4))},
		{sample.Run{Name: "r", First: api.MaxPlace - 4096, Samples: make([]float32, 4096)}, trace(api.MaxPlace-4096, constant(0, 4096))},
	} {
		got, e := chord.Traced(x.r)
		want(t, "Traced", list(i, got, e), list(i, x.t, api.OK))
	}
	for i, x := range []struct {
		r sample.Run
		e api.Errno
	}{
		{sample.Run{First: -1}, api.ErrName},
		{sample.Run{Name: "r", First: -1}, api.ErrRange},
		{sample.Run{Name: "r", Samples: make([]float32, 4097)}, api.ErrMany},
		{sample.Run{Name: "r", Samples: []float32{float32(math.NaN())}}, api.ErrForm},
		{sample.Run{Name: "r", Samples: []float32{0.03125}}, api.ErrRange},
		{sample.Run{Name: "r", First: api.MaxPlace, Samples: []float32{1}}, api.ErrLarge},
		{sample.Run{Name: "r", Samples: []float32{1}, Holes: []api.Span{span(0, 2)}}, api.ErrSpan},
		{sample.Run{Name: "r", Samples: []float32{0, 0}, Holes: []api.Span{span(0, 1), span(1, 2)}}, api.ErrOrder},
		{sample.Run{Name: "r", Samples: []float32{1}, Holes: []api.Span{span(0, 1)}}, api.ErrForm},
	} {
		got, e := chord.Traced(x.r)
		want(t, "Traced of a bad run", list(i, got, e), list(i, chord.Trace{}, x.e))
	}
}

func TestSum(t *testing.T) {
	const most = 1 << 30
	for i, x := range []struct {
		a, b, sum chord.Trace
		e         api.Errno
	}{
		{squares(), torn(), made(10, 0, 2, unknown, 18, 32, 50), api.OK},
		{torn(), squares(), made(10, 0, 2, unknown, 18, 32, 50), api.OK},
		{made(0, unknown, 1, 2, 3), made(0, 4, unknown, 5, unknown), made(0, unknown, unknown, 7, unknown), api.OK},
		{made(0, unknown), made(0, unknown), made(0, unknown), api.OK},
		{made(5), made(5), made(5), api.OK},
		{made(api.MaxPlace), made(api.MaxPlace), made(api.MaxPlace), api.OK},
		{made(0, most, -most, most-1, 1-most), made(0, 0, 0, 1, -1), made(0, most, -most, most, -most), api.OK},
		{made(0, 1, most, -most), made(0, 1, -most, most), made(0, 2, 0, 0), api.OK},
		{made(0, most), made(0, 1), chord.Trace{}, api.ErrLarge},
		{made(0, -most), made(0, -1), chord.Trace{}, api.ErrLarge},
		{made(0, 0, most), made(0, 0, most), chord.Trace{}, api.ErrLarge},
		{made(0, most, most), made(0, unknown, 0), made(0, unknown, most), api.OK},
		{made(5), made(6), chord.Trace{}, api.ErrShape},
		{made(5, most), made(6, most), chord.Trace{}, api.ErrShape},
		{made(5, most), made(5, most, most), chord.Trace{}, api.ErrShape},
		{made(5, most, most), made(5, most), chord.Trace{}, api.ErrShape},
		{made(5, most), made(4, most, most), chord.Trace{}, api.ErrShape},
	} {
		sum, e := chord.Sum(x.a, x.b)
		want(t, "Sum", list(i, sum, e), list(i, x.sum, x.e))
	}
	other := made(0, 1<<30)
	for i, x := range badTraces() {
		sum, e := chord.Sum(x.t, other)
		want(t, "Sum of a bad trace", list(i, sum, e), list(i, chord.Trace{}, x.e))
		sum, e = chord.Sum(other, x.t)
		want(t, "Sum with a bad trace", list(i, sum, e), list(i, chord.Trace{}, x.e))
		sum, e = chord.Sum(x.t, made(-1))
		want(t, "Sum of two bad traces", list(i, sum, e), list(i, chord.Trace{}, x.e))
	}
	sum, e := chord.Sum(trace(0, constant(0, 4097)), made(-1))
	want(t, "Sum of two bad traces", list(sum, e), list(chord.Trace{}, api.ErrMany))
}

func TestReversed(t *testing.T) {
	const most = api.MaxPlace
	for i, x := range []struct {
		t     chord.Trace
		pivot int
		to    chord.Trace
		e     api.Errno
	}{
		{torn(), 12, made(9, 25, 16, 9, unknown, 1, 0), api.OK},
		{torn(), 8, made(1, 25, 16, 9, unknown, 1, 0), api.OK},
		{made(0, 1, 2, 3), 1, made(0, 3, 2, 1), api.OK},
		{made(0, 1, 2), 1, made(1, 2, 1), api.OK},
		{made(0, unknown, unknown, 3, unknown), 5, made(7, unknown, 3, unknown, unknown), api.OK},
		{made(0, 1), 0, made(0, 1), api.OK},
		{made(0, 1, 2), 0, chord.Trace{}, api.ErrSpan},
		{made(3, 1), 1, chord.Trace{}, api.ErrSpan},
		{squares(), 7, chord.Trace{}, api.ErrSpan},
		{made(5), 2, made(0), api.OK},
		{made(6), 2, chord.Trace{}, api.ErrSpan},
		{made(5), 5, made(6), api.OK},
		{made(1), most / 2, made(most), api.OK},
		{made(0), most / 2, chord.Trace{}, api.ErrSpan},
		{made(0), most, chord.Trace{}, api.ErrSpan},
		{made(most), most, chord.Trace{}, api.ErrSpan},
		{made(most), most - 1, made(most - 1), api.OK},
		{made(most-1, 7), most - 1, made(most-1, 7), api.OK},
		{made(most-2, 7, 8), most - 1, chord.Trace{}, api.ErrSpan},
		{made(1, 7), most / 2, made(most-1, 7), api.OK},
		{made(0, 7), most / 2, chord.Trace{}, api.ErrSpan},
		{made(most-1, 7), most / 2, made(1, 7), api.OK},
		{made(most-2, 7, 8), most / 2, made(1, 8, 7), api.OK},
		{made(most-2, 7, 8), most/2 - 1, chord.Trace{}, api.ErrSpan},
		{made(0, 1), -1, chord.Trace{}, api.ErrRange},
		{made(0, 1), most + 1, chord.Trace{}, api.ErrRange},
		{made(0, 1), math.MinInt, chord.Trace{}, api.ErrRange},
		{made(0, 1), math.MaxInt, chord.Trace{}, api.ErrRange},
	} {
		to, e := chord.Reversed(x.t, x.pivot)
		want(t, "Reversed", list(i, to, e), list(i, x.to, x.e))
	}
	for i, x := range badTraces() {
		for _, pivot := range []int{-1, 0, 12} {
			to, e := chord.Reversed(x.t, pivot)
			want(t, "Reversed of a bad trace", list(i, to, e), list(i, chord.Trace{}, x.e))
		}
	}
	g := source(1)
	for range 1000 {
		x := someTrace(g, 12)
		pivot := g.IntN(60)
		var wanted []int
		first := 0
		for p := 130; p >= 0; p-- {
			if n, is := at(x, 2*pivot-p); is {
				wanted = append(wanted, n)
				first = p
			}
		}
		slices.Reverse(wanted)
		to, e := chord.Reversed(x, pivot)
		if len(wanted) < len(x.Values) {
			want(t, "Reversed", list(x, pivot, to, e), list(x, pivot, chord.Trace{}, api.ErrSpan))
		} else if len(wanted) > 0 {
			want(t, "Reversed", list(x, pivot, to, e), list(x, pivot, made(first, wanted...), api.OK))
		}
	}
}
