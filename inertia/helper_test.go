package inertia_test

import (
	"math"
	"math/big"
	"math/rand/v2"
	"reflect"
	"slices"
	"testing"

	"versine/api"
	"versine/inertia"
)

var (
	nan       = float32(math.NaN())
	infinite  = float32(math.Inf(1))
	minusZero = float32(math.Copysign(0, -1))
)

// want reports results that differ from the expected ones.
func want(t *testing.T, what string, got, wanted []any) {
	t.Helper()
	if !same(reflect.ValueOf(got), reflect.ValueOf(wanted)) {
		t.Errorf("%s: got %v, want %v", what, got, wanted)
	}
}

// same is reflect.DeepEqual, except that nil and empty lists are equal, and 0 and -0.
func same(a, b reflect.Value) bool {
	if !a.IsValid() || !b.IsValid() {
		return a.IsValid() == b.IsValid()
	}
	if a.Type() != b.Type() {
		return false
	}
	switch a.Kind() {
	case reflect.Interface:
		return same(a.Elem(), b.Elem())
	case reflect.Slice, reflect.Array:
		if a.Len() != b.Len() {
			return false
		}
		for i := range a.Len() {
			if !same(a.Index(i), b.Index(i)) {
				return false
			}
		}
		return true
	case reflect.Struct:
		for i := range a.NumField() {
			if !same(a.Field(i), b.Field(i)) {
				return false
			}
		}
		return true
	}
	return a.Equal(b)
}

// list is results, to be compared.
func list(l ...any) []any { return l }

func span(from, to int) api.Span { return api.Span{From: from, To: to} }

// triple is three readings.
type triple = [3]float32

func tick(place int, a, b, c float32) inertia.Tick {
	return inertia.Tick{Place: place, Reading: triple{a, b, c}}
}

// sure returns a tick whose three readings have the same integer.
func sure(place, integer int) inertia.Tick {
	x := float32(integer) / 16
	return tick(place, x, x, x)
}

// torn returns a tick whose vote is unknown by limits below 160.
func torn(place int) inertia.Tick { return tick(place, -20, 0, 10) }

// signal returns the signal with integers.
func signal(integers ...int) []float32 {
	l := make([]float32, len(integers))
	for i, n := range integers {
		l[i] = float32(n) / 16
	}
	return l
}

// integers returns what signal makes a signal of.
func integers(l []float32) []int {
	out := make([]int, len(l))
	for i, x := range l {
		out[i] = int(x * 16)
	}
	return out
}

// constant returns n times the same element.
func constant[T any](x T, n int) []T { return slices.Repeat([]T{x}, n) }

// source returns numbers that are the same in each test run.
func source(seed uint64) *rand.Rand { return rand.New(rand.NewPCG(seed, 4)) }

// between returns a number from least to most.
func between(g *rand.Rand, least, most int) int { return least + g.IntN(most-least+1) }

// someIntegers returns n integers from -bound to bound.
func someIntegers(g *rand.Rand, n, bound int) []int {
	l := make([]int, n)
	for i := range l {
		l[i] = between(g, -bound, bound)
	}
	return l
}

func someSpeeds(g *rand.Rand, n, most int) []int {
	l := make([]int, n)
	for i := range l {
		l[i] = between(g, 1, most)
	}
	return l
}

// ratio is a quotient that is computed without bounds.
func ratio(num, den int) *big.Rat { return big.NewRat(int64(num), int64(den)) }

// nearest returns the integer from a half below a ratio, without it, to a half above it.
func nearest(x *big.Rat) int {
	y := new(big.Rat).Add(x, ratio(1, 2))
	n := new(big.Int).Div(y.Num(), y.Denom()) // for a denominator above 0 this division goes downwards
	return int(n.Int64())
}

// samplesOf returns the signal with integers, or ErrLarge if one is none of a sample.
func samplesOf(integers []int) ([]float32, api.Errno) {
	for _, n := range integers {
		if n < -16384 || n > 16384 {
			return nil, api.ErrLarge
		}
	}
	return signal(integers...), api.OK
}

// badSignal is a signal with an error.
type badSignal struct {
	l []float32
	e api.Errno
}

// badSignals returns signals with each error, where those that are listed later are there, too.
func badSignals() []badSignal {
	return []badSignal{
		{append(make([]float32, 4096), nan), api.ErrMany},
		{append([]float32{nan}, make([]float32, 4096)...), api.ErrMany},
		{make([]float32, 4097), api.ErrMany},
		{make([]float32, 10000), api.ErrMany},
		{[]float32{nan}, api.ErrForm},
		{[]float32{infinite}, api.ErrForm},
		{[]float32{1, -infinite}, api.ErrForm},
		{[]float32{1, nan, 2000}, api.ErrForm},
		{[]float32{1, 2000, nan}, api.ErrRange},
		{[]float32{0.03125}, api.ErrRange},
		{[]float32{1, 2, -0.09375}, api.ErrRange},
		{[]float32{1024.0625}, api.ErrRange},
		{[]float32{-1024.0625}, api.ErrRange},
		{[]float32{math.MaxFloat32}, api.ErrRange},
		{[]float32{math.SmallestNonzeroFloat32}, api.ErrRange},
		{append(make([]float32, 4095), nan), api.ErrForm},
	}
}

// badChannel is a channel with an error.
type badChannel struct {
	c inertia.Channel
	e api.Errno
}

// badChannels returns channels with each error, where those that are listed later are there, too.
func badChannels() []badChannel {
	return []badChannel{
		{inertia.Channel{}, api.ErrName},
		{inertia.Channel{Name: "", Offset: nan, Num: 0, Den: 0}, api.ErrName},
		{inertia.Channel{Name: "9", Num: 1, Den: 1}, api.ErrName},
		{inertia.Channel{Name: "a b", Num: 1, Den: 1}, api.ErrName},
		{inertia.Channel{Name: "aaaaaaaaaaaaaaaaaaaaaaaaa", Num: 1, Den: 1}, api.ErrName},
		{inertia.Channel{Name: "a", Offset: nan, Num: 0, Den: 0}, api.ErrForm},
		{inertia.Channel{Name: "a", Offset: infinite, Num: 1, Den: 1}, api.ErrForm},
		{inertia.Channel{Name: "a", Offset: 2000, Num: 1, Den: 1}, api.ErrRange},
		{inertia.Channel{Name: "a", Offset: 0.03125, Num: 1, Den: 1}, api.ErrRange},
		{inertia.Channel{Name: "a", Num: 0, Den: 1}, api.ErrRange},
		{inertia.Channel{Name: "a", Num: -1, Den: 1}, api.ErrRange},
		{inertia.Channel{Name: "a", Num: 1001, Den: 1}, api.ErrRange},
		{inertia.Channel{Name: "a", Num: 1, Den: 0}, api.ErrRange},
		{inertia.Channel{Name: "a", Num: 1, Den: -1}, api.ErrRange},
		{inertia.Channel{Name: "a", Num: 1, Den: 1001}, api.ErrRange},
		{inertia.Channel{Name: "a", Num: math.MinInt, Den: math.MaxInt}, api.ErrRange},
	}
}

// badTicks is ticks with an error.
type badTicks struct {
	l []inertia.Tick
	e api.Errno
}

// badTickLists returns ticks with each error, where those that are listed later are there, too.
func badTickLists() []badTicks {
	const most = api.MaxPlace
	return []badTicks{
		{constant(tick(-1, nan, 0, 0), 1025), api.ErrMany},
		{constant(sure(0, 0), 1025), api.ErrMany},
		{constant(tick(-1, nan, 0, 0), 1024), api.ErrRange},
		{[]inertia.Tick{sure(-1, 0)}, api.ErrRange},
		{[]inertia.Tick{sure(most+1, 0)}, api.ErrRange},
		{[]inertia.Tick{sure(math.MinInt, 0)}, api.ErrRange},
		{[]inertia.Tick{sure(math.MaxInt, 0)}, api.ErrRange},
		{[]inertia.Tick{sure(9, 0), tick(-1, nan, 0, 0)}, api.ErrRange},
		{[]inertia.Tick{sure(9, 0), tick(8, nan, 2000, 0)}, api.ErrForm},
		{[]inertia.Tick{sure(9, 0), tick(8, 2000, nan, 0)}, api.ErrRange},
		{[]inertia.Tick{tick(0, nan, 0, 0)}, api.ErrForm},
		{[]inertia.Tick{tick(0, 0, nan, 0)}, api.ErrForm},
		{[]inertia.Tick{tick(0, 0, 0, infinite)}, api.ErrForm},
		{[]inertia.Tick{tick(0, 0, 0, 2000)}, api.ErrRange},
		{[]inertia.Tick{tick(0, 0, 0.03125, 0)}, api.ErrRange},
		{[]inertia.Tick{tick(0, -2000, 0, 0)}, api.ErrRange},
		{[]inertia.Tick{sure(9, 0), sure(8, 0)}, api.ErrOrder},
		{[]inertia.Tick{sure(1, 0), sure(9, 0), sure(8, 0), sure(-1, 0)}, api.ErrOrder},
		{[]inertia.Tick{sure(most, 0), sure(0, 0)}, api.ErrOrder},
	}
}

// badSpeeds is speeds with an error.
type badSpeeds struct {
	l []int
	e api.Errno
}

func badSpeedLists() []badSpeeds {
	return []badSpeeds{
		{constant(0, 4097), api.ErrMany},
		{constant(1, 4097), api.ErrMany},
		{[]int{0}, api.ErrRange},
		{[]int{-1}, api.ErrRange},
		{[]int{101}, api.ErrRange},
		{[]int{1, 100, 101}, api.ErrRange},
		{[]int{1, math.MinInt}, api.ErrRange},
		{[]int{math.MaxInt, 1}, api.ErrRange},
		{append(constant(1, 4095), 0), api.ErrRange},
	}
}

// badSamples returns numbers that are no samples, with their errors.
func badSamples() map[float32]api.Errno {
	return map[float32]api.Errno{
		nan: api.ErrForm, infinite: api.ErrForm, -infinite: api.ErrForm,
		1024.0625: api.ErrRange, -1024.0625: api.ErrRange, 0.03125: api.ErrRange, math.MaxFloat32: api.ErrRange,
	}
}
