package inertia_test

import (
	"math/big"
	"math/rand/v2"
	"slices"
	"testing"

	"versine/api"
	"versine/inertia"
)

// someSignal returns a signal of n samples that is small enough for all sums and accelerations of these tests.
func someSignal(g *rand.Rand, n int) []float32 { return signal(someIntegers(g, n, 1+g.IntN(400))...) }

// plus returns the sum of two signals.
func plus(a, b []float32) []float32 {
	out := make([]float32, len(a))
	for i, x := range a {
		out[i] = x + b[i]
	}
	return out
}

// ascending returns the signal of a line of n samples.
func ascending(level, slope, n int) []float32 {
	l := make([]int, n)
	for i := range l {
		l[i] = level + slope*i
	}
	return signal(l...)
}

// TestSumsThereAndBack checks that a signal comes back from its second differences, from either end.
func TestSumsThereAndBack(t *testing.T) {
	g := source(30)
	for range 2000 {
		l := someSignal(g, between(g, 2, 30))
		n := len(l)
		bends, e := inertia.Bent(l)
		there, e1 := inertia.Doubled(bends, [2]float32(l[:2]))
		back, e2 := inertia.Undoubled(bends, [2]float32(l[n-2:]))
		want(t, "the sums of second differences", list(l, e, there, e1, back, e2), list(l, api.OK, l, api.OK, l, api.OK))
		mean, e := inertia.Halved(there, back)
		want(t, "the mean of both", list(mean, e), list(l, api.OK))
		again, e := inertia.Bent(there)
		want(t, "the second differences of the sum", list(again, e), list(bends, api.OK))
	}
	whole := someSignal(g, 4096)
	bends, e := inertia.Bent(whole)
	there, e1 := inertia.Doubled(bends, [2]float32(whole[:2]))
	back, e2 := inertia.Undoubled(bends, [2]float32(whole[4094:]))
	want(t, "the sums of a long signal", list(e, e1, e2, slices.Equal(there, whole), slices.Equal(back, whole)), list(api.OK, api.OK, api.OK, true, true))
}

// TestAnySpeed checks that accelerations at any speeds give the second differences, and so the signal.
func TestAnySpeed(t *testing.T) {
	g := source(31)
	for range 2000 {
		l := signal(someIntegers(g, between(g, 2, 12), 2)...)
		n := len(l)
		bends, _ := inertia.Bent(l)
		for range 3 {
			speeds := someSpeeds(g, n-2, 45) // 45 times 45 times 8 is 16200
			felt, e := inertia.Felt(l, speeds)
			freed, f := inertia.Freed(felt, speeds)
			want(t, "Freed of Felt", list(l, speeds, freed, e, f), list(l, speeds, bends, api.OK, api.OK))
			there, e := inertia.Doubled(freed, [2]float32(l[:2]))
			back, f := inertia.Undoubled(freed, [2]float32(l[n-2:]))
			want(t, "the sums at any speeds", list(speeds, there, e, back, f), list(speeds, l, api.OK, l, api.OK))
		}
	}
}

// TestSecondDifferencesSeeNoLine checks that a line changes no second difference and no acceleration.
func TestSecondDifferencesSeeNoLine(t *testing.T) {
	g := source(32)
	for range 1000 {
		l := someSignal(g, between(g, 2, 20))
		with := plus(l, ascending(between(g, -5000, 5000), between(g, -200, 200), len(l)))
		a, e1 := inertia.Bent(l)
		b, e2 := inertia.Bent(with)
		want(t, "Bent with a line", list(l, b, e1, e2), list(l, a, api.OK, api.OK))
		speeds := someSpeeds(g, len(l)-2, 3)
		a, e1 = inertia.Felt(l, speeds)
		b, e2 = inertia.Felt(with, speeds)
		want(t, "Felt with a line", list(l, b, e1, e2), list(l, a, api.OK, api.OK))
	}
}

// TestTurnedSignals checks that the second differences of a turned signal are turned, and that two turns change nothing.
func TestTurnedSignals(t *testing.T) {
	g := source(33)
	for range 1000 {
		l := someSignal(g, between(g, 2, 20))
		turned, e := inertia.Turned(l)
		twice, f := inertia.Turned(turned)
		want(t, "Turned twice", list(twice, e, f), list(l, api.OK, api.OK))
		bends, e1 := inertia.Bent(l)
		a, e2 := inertia.Turned(bends)
		b, e3 := inertia.Bent(turned)
		want(t, "Bent of a turned signal", list(l, b, e1, e2, e3), list(l, a, api.OK, api.OK, api.OK))
		speeds := someSpeeds(g, len(l)-2, 3)
		felt, e1 := inertia.Felt(l, speeds)
		a, e2 = inertia.Turned(felt)
		slices.Reverse(speeds)
		b, e3 = inertia.Felt(turned, speeds)
		want(t, "Felt of a turned signal", list(l, b, e1, e2, e3), list(l, a, api.OK, api.OK, api.OK))
	}
}

// TestOffsetOfBothDirections checks that what is measured there and back with an offset gives it, and without it the same signal.
func TestOffsetOfBothDirections(t *testing.T) {
	g := source(34)
	for range 2000 {
		l := someSignal(g, between(g, 1, 20))
		back, _ := inertia.Turned(l)
		x := signal(between(g, -15000, 15000))[0]
		shift := constant(x, len(l))
		forward, backward := plus(l, shift), plus(back, shift)
		offset, e := inertia.Offset(forward, backward)
		want(t, "Offset", list(l, offset, e), list(l, x, api.OK))
		a, e1 := inertia.Corrected(plain(offset), forward)
		b, e2 := inertia.Corrected(plain(offset), backward)
		turned, e3 := inertia.Turned(b)
		want(t, "Corrected", list(a, turned, e1, e2, e3), list(l, l, api.OK, api.OK, api.OK))
	}
}

// TestOneWrongReading checks that no third reading changes the vote of two that agree, by any limit.
func TestOneWrongReading(t *testing.T) {
	g := source(35)
	extremes := []int{-16384, 16384, 0, 1, -1}
	for range 2000 {
		n, wrong := between(g, -16384, 16384), between(g, -16384, 16384)
		if g.IntN(2) == 0 {
			wrong = extremes[g.IntN(len(extremes))]
		}
		x := signal(n, n, wrong)
		for _, o := range orders(x[0], x[1], x[2]) {
			for _, limit := range []int{0, 1, g.IntN(16385), 16384} {
				votes, spans, e := inertia.Voted([]inertia.Tick{{Place: 5, Reading: o}}, limit)
				want(t, "Voted", list(o, limit, votes, spans, e), list(o, limit, signal(n), []api.Span{}, api.OK))
			}
		}
	}
}

// TestTrendOfLeveled checks that the trend of a leveled signal is one of differences of at most a half.
func TestTrendOfLeveled(t *testing.T) {
	g := source(36)
	for range 300 {
		l := someSignal(g, between(g, 2, 24))
		n := len(l)
		leveled, e := inertia.Leveled(l)
		x, f := inertia.Fitted(leveled)
		want(t, "the errors", list(l, e, f), list(l, api.OK, api.OK))
		level, slope := ratio(x.Level.Num, x.Level.Den), ratio(x.Slope.Num, x.Slope.Den)
		for i := range n {
			value := valueAt(level, slope, i)
			if most := leftByRounding(n, i); value.Abs(value).Cmp(most) > 0 {
				t.Errorf("the trend of the leveled signal of %v: got %v, which is %v at %v, and not at most %v", l, x, value, i, most)
			}
		}
		again, e := inertia.Leveled(leveled)
		for i := range again {
			if d := integers(again)[i] - integers(leveled)[i]; d < -1 || d > 1 {
				t.Errorf("Leveled twice of %v: got %v, %v, then %v", l, leveled, e, again)
			}
		}
	}
}

// leftByRounding returns the greatest value at an index that the trend of n integers from -1/2 to 1/2 can have: half
// the sum of what each one counts in it, which is the value of the trend of 1 at its index, and 0 at all others.
func leftByRounding(n, at int) *big.Rat {
	sum := new(big.Rat)
	for i := range n {
		unit := make([]int, n)
		unit[i] = 1
		level, slope := fit(unit)
		value := valueAt(level, slope, at)
		sum.Add(sum, value.Abs(value))
	}
	return sum.Mul(sum, ratio(1, 2))
}

// TestEndsOfStraightened checks that a straightened signal begins and ends with 0.
func TestEndsOfStraightened(t *testing.T) {
	g := source(37)
	for range 2000 {
		l := someSignal(g, someLength(g))
		straight, e := inertia.Straightened(l)
		want(t, "Straightened", list(len(straight), straight[0], straight[len(l)-1], e), list(len(l), float32(0), float32(0), api.OK))
		again, e := inertia.Straightened(straight)
		want(t, "Straightened twice", list(again, e), list(straight, api.OK))
		line := ascending(between(g, -800, 800), between(g, -1, 1), len(l))
		flat, e := inertia.Straightened(line)
		want(t, "Straightened of a line", list(flat, e), list(make([]float32, len(l)), api.OK))
		flat, e = inertia.Leveled(line)
		want(t, "Leveled of a line", list(flat, e), list(make([]float32, len(l)), api.OK))
	}
}

// TestTwistOfParts checks that the twist over a base is the sum of its twists over two parts of it.
func TestTwistOfParts(t *testing.T) {
	g := source(38)
	for range 2000 {
		l := someSignal(g, g.IntN(80))
		a, b := between(g, 1, 32), between(g, 1, 32)
		whole, e1 := inertia.Twist(l, a+b)
		first, e2 := inertia.Twist(l, a)
		second, e3 := inertia.Twist(l, b)
		n := len(whole)
		want(t, "the length of a twist", list(n, e1, e2, e3), list(max(0, len(l)-a-b), api.OK, api.OK, api.OK))
		if n > 0 {
			want(t, "Twist", list(l, a, b, whole), list(l, a, b, plus(first[:n], second[a:])))
		}
	}
}

// TestPanelsOfWaves checks that the panels of the second differences of a wave of four are those of the wave times the response.
func TestPanelsOfWaves(t *testing.T) {
	g := source(39)
	for range 2000 {
		wave := someSignal(g, 4)
		l := slices.Repeat(wave, between(g, 2, 6))
		bends, e1 := inertia.Bent(l)
		panels, e2 := inertia.Panels(l)
		got, e3 := inertia.Panels(bends[:len(bends)/4*4])
		for i := range panels {
			for k, x := range inertia.Response() {
				panels[i][k] *= complex64(x)
			}
		}
		want(t, "Panels of second differences", list(wave, got, e1, e2, e3), list(wave, panels[:len(got)], api.OK, api.OK, api.OK))
	}
}

// TestChannelsComeBack checks that channels are parsed as they were printed.
func TestChannelsComeBack(t *testing.T) {
	g := source(40)
	for range 1000 {
		l := someChannels(g, 60)
		s, e := inertia.Print(l)
		back, line, f := inertia.Parse(s)
		want(t, "Parse of Print", list(l, e, back, line, f), list(l, api.OK, l, 0, api.OK))
		again, e := inertia.Print(back)
		want(t, "Print of Parse", list(again, e), list(s, api.OK))
	}
}
