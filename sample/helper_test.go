package sample_test

import (
	"math"
	"math/rand/v2"
	"reflect"
	"testing"

	"versine/api"
	"versine/sample"
)

var (
	nan       = float32(math.NaN())
	infinite  = float32(math.Inf(1))
	minusZero = float32(math.Copysign(0, -1))
)

// want reports results that differ from the expected ones.
func want(t *testing.T, what string, got, wanted []any) {
	t.Helper()
	if !same(reflect.ValueOf(got), reflect.ValueOf(wanted)) {
		t.Errorf("%s: got %v, want %v", what, got, wanted)
	}
}

// same is reflect.DeepEqual, except that nil and empty lists are equal, and 0 and -0.
func same(a, b reflect.Value) bool {
	if !a.IsValid() || !b.IsValid() {
		return a.IsValid() == b.IsValid()
	}
	if a.Type() != b.Type() {
		return false
	}
	switch a.Kind() {
	case reflect.Interface:
		return same(a.Elem(), b.Elem())
	case reflect.Slice, reflect.Array:
		if a.Len() != b.Len() {
			return false
		}
		for i := range a.Len() {
			if !same(a.Index(i), b.Index(i)) {
				return false
			}
		}
		return true
	case reflect.Struct:
		for i := range a.NumField() {
			if !same(a.Field(i), b.Field(i)) {
				return false
			}
		}
		return true
	}
	return a.Equal(b)
}

// list is results, to be compared.
func list(l ...any) []any { return l }

func span(from, to int) api.Span { return api.Span{From: from, To: to} }

func run(name string, first int, samples []float32, holes ...api.Span) sample.Run {
	return sample.Run{Name: name, First: first, Samples: samples, Holes: holes}
}

// hidden returns a run of which nothing is known.
func hidden(name string, first, samples int) sample.Run {
	return run(name, first, make([]float32, samples), span(0, samples))
}

// shown is the run R of the chapter's examples.
func shown() sample.Run { return run("r", 100, []float32{1, 2, 0, 0, 5}, span(2, 4)) }

// source returns numbers that are the same in each test run.
func source(seed uint64) *rand.Rand { return rand.New(rand.NewPCG(seed, 1)) }

// unknown is the integer of an unknown sample in the lists of ints by which the tests write runs.
const unknown = math.MinInt

// made returns the run with these integers, where unknown ones are holes.
func made(name string, first int, integers ...int) sample.Run {
	r := sample.Run{Name: name, First: first}
	for i, n := range integers {
		if n != unknown {
			r.Samples = append(r.Samples, float32(n)/16)
			continue
		}
		r.Samples = append(r.Samples, 0)
		if i > 0 && integers[i-1] == unknown {
			r.Holes[len(r.Holes)-1].To++
			continue
		}
		r.Holes = append(r.Holes, span(i, i+1))
	}
	return r
}

// integers returns what made makes a run of.
func integers(r sample.Run) []int {
	l := make([]int, len(r.Samples))
	for i, x := range r.Samples {
		l[i] = int(x * 16)
	}
	for _, h := range r.Holes {
		for i := h.From; i < h.To; i++ {
			l[i] = unknown
		}
	}
	return l
}

// someIntegers returns up to most integers from -bound to bound, about a third of them unknown.
func someIntegers(g *rand.Rand, most, bound int) []int {
	l := make([]int, g.IntN(most+1))
	for i := range l {
		l[i] = g.IntN(2*bound+1) - bound
		if g.IntN(3) == 0 {
			l[i] = unknown
		}
	}
	return l
}

// nearest returns a quotient, rounded to the nearest integer, from the middle to the greater one.
func nearest(num, den int) int {
	n := num/den - 2
	for 2*num >= (2*n+1)*den {
		n++
	}
	return n
}

// badRun is a run with an error.
type badRun struct {
	r sample.Run
	e api.Errno
}

// badRuns returns runs with each error, where those that are listed later are there, too.
func badRuns() []badRun {
	return []badRun{
		{sample.Run{Name: "", First: -1, Samples: make([]float32, 4097), Holes: []api.Span{{From: -1, To: 9999}}}, api.ErrName},
		{sample.Run{Name: "r", First: -1, Samples: make([]float32, 4097)}, api.ErrRange},
		{sample.Run{Name: "r", First: api.MaxPlace + 1, Samples: make([]float32, 4097)}, api.ErrRange},
		{sample.Run{Name: "r", First: math.MaxInt, Samples: []float32{nan}}, api.ErrRange},
		{sample.Run{Name: "r", First: math.MinInt, Samples: []float32{nan}}, api.ErrRange},
		{sample.Run{Name: "r", First: api.MaxPlace, Samples: append(make([]float32, 4096), nan)}, api.ErrMany},
		{run("r", api.MaxPlace, []float32{0, 2000, nan}, span(0, 9)), api.ErrRange},
		{run("r", api.MaxPlace, []float32{0, nan, 2000}, span(0, 9)), api.ErrForm},
		{run("r", api.MaxPlace, []float32{0, infinite}), api.ErrForm},
		{run("r", api.MaxPlace, []float32{1}, span(0, 9)), api.ErrLarge},
		{run("r", api.MaxPlace-1, []float32{1, 2}, span(0, 9)), api.ErrLarge},
		{run("r", 0, []float32{1, 2, 3}, span(-1, 1)), api.ErrSpan},
		{run("r", 0, []float32{1, 2, 3}, span(2, 2)), api.ErrSpan},
		{run("r", 0, []float32{1, 2, 3}, span(2, 1)), api.ErrSpan},
		{run("r", 0, []float32{1, 2, 3}, span(2, 4)), api.ErrSpan},
		{run("r", 0, []float32{1, 2, 3}, span(math.MaxInt, math.MinInt)), api.ErrSpan},
		{run("r", 0, nil, span(0, 0)), api.ErrSpan},
		{run("r", 0, nil, span(0, 1)), api.ErrSpan},
		{run("r", 0, []float32{1, 2, 3}, span(0, 2), span(2, 3), span(7, 7)), api.ErrOrder},
		{run("r", 0, []float32{1, 2, 3}, span(0, 2), span(7, 7), span(2, 3)), api.ErrSpan},
		{run("r", 0, []float32{1, 2, 3}, span(1, 2), span(0, 4)), api.ErrSpan},
		{run("r", 0, []float32{1, 2, 3}, span(2, 3), span(0, 1)), api.ErrOrder},
		{run("r", 0, []float32{1, 2, 3}, span(0, 2), span(0, 2)), api.ErrOrder},
		{run("r", 0, []float32{1, 2, 3}, span(0, 1)), api.ErrForm},
		{run("r", 0, []float32{0, 2, 0.0625}, span(0, 1), span(2, 3)), api.ErrForm},
		{run("r", 0, []float32{0, 0, -1}, span(0, 3)), api.ErrForm},
	}
}
