package profile_test

import (
	"testing"

	"versine/api"
	"versine/profile"
)

// ratioOf returns a quotient in lowest terms.
func ratioOf(num, den int) api.Ratio {
	x := quotient(num, den)
	return ratio(int(x.Num().Int64()), int(x.Denom().Int64()))
}

// TestInclination checks example 4.
func TestInclination(t *testing.T) {
	for i, x := range []struct {
		p    profile.Profile
		a, b int
		r    api.Ratio
	}{
		{nominal(), 0, 10, ratio(1, 1)}, {worn(), 10, 30, ratio(1, 20)}, {nominal(), 30, 40, ratio(-1, 1)}, {nominal(), 10, 30, ratio(0, 1)}, {nominal(), 0, 40, ratio(0, 1)},
		{nominal(), 5, 20, ratio(1, 3)}, {nominal(), 20, 35, ratio(-1, 3)}, {worn(), 20, 35, ratio(-4, 15)}, {worn(), 39, 40, ratio(-1, 1)}, {worn(), 5, 35, ratio(1, 30)},
		{shape(-10, -4, 10, 4), -10, 10, ratio(2, 5)}, {shape(-10, 4, 10, -4), -10, 10, ratio(-2, 5)}, {shape(-10, 4, 10, -4), -1, 1, ratio(0, 1)},
	} {
		r, e := profile.Inclination(x.p, x.a, x.b)
		want(t, "Inclination", list(i, r, e), list(i, x.r, api.OK))
	}
}

// TestConicity checks example 4.
func TestConicity(t *testing.T) {
	for i, x := range []struct {
		p                 profile.Profile
		centre, amplitude int
		r                 api.Ratio
	}{
		{nominal(), 20, 15, ratio(0, 1)}, {nominal(), 15, 10, ratio(1, 4)}, {nominal(), 30, 10, ratio(-1, 2)}, {nominal(), 20, 20, ratio(0, 1)}, {nominal(), 1, 1, ratio(1, 1)},
		{worn(), 20, 10, ratio(1, 20)}, {worn(), 20, 1, ratio(1, 2)}, {worn(), 39, 1, ratio(-1, 1)}, {shape(-9, -9, -3, 9), -6, 3, ratio(3, 1)},
	} {
		r, e := profile.Conicity(x.p, x.centre, x.amplitude)
		want(t, "Conicity", list(i, r, e), list(i, x.r, api.OK))
	}
}

// TestSlopesByDefinition checks inclinations and conicities between any columns.
func TestSlopesByDefinition(t *testing.T) {
	g := source(20)
	for range 4000 {
		p := someProfile(g, 10, -30, 30, 1<<g.IntN(10))
		a, b := between(g, -32, 32), between(g, -32, 32)
		wanted, e := api.Ratio{}, api.OK
		switch {
		case !hasColumn(p, a) || !hasColumn(p, b):
			e = api.ErrSpan
		case b <= a:
			e = api.ErrOrder
		default:
			wanted = ratioOf(heightOf(p, b)-heightOf(p, a), b-a)
		}
		r, f := profile.Inclination(p, a, b)
		want(t, "Inclination", list(p, a, b, r, f), list(p, a, b, wanted, e))

		amplitude := between(g, 1, 30)
		wanted, e = api.Ratio{}, api.ErrSpan
		if left, right := a-amplitude, a+amplitude; hasColumn(p, left) && hasColumn(p, right) {
			wanted, e = ratioOf(heightOf(p, right)-heightOf(p, left), 2*amplitude), api.OK
		}
		r, f = profile.Conicity(p, a, amplitude)
		want(t, "Conicity", list(p, a, amplitude, r, f), list(p, a, amplitude, wanted, e))
	}
}

// TestContact checks example 5, and wheels that are beside the rail.
func TestContact(t *testing.T) {
	for i, x := range []struct {
		rail, wheel profile.Profile
		shift       int
		column, gap int
		e           api.Errno
	}{
		{nominal(), wheel(), 0, 19, 2, api.OK}, {nominal(), wheel(), 5, 24, 2, api.OK},
		{nominal(), shape(0, 5, 40, 5), 0, 10, -5, api.OK}, {nominal(), shape(0, 10, 40, 10), 0, 10, 0, api.OK},
		{nominal(), shape(50, 0, 60, 0), 0, 0, 0, api.ErrNone}, {nominal(), shape(50, 0, 60, 0), -10, 40, 0, api.OK}, {nominal(), shape(50, 0, 60, 0), -9, 0, 0, api.ErrNone},
		{nominal(), shape(50, 7, 60, 7), -11, 39, 6, api.OK}, {nominal(), shape(-20, 5, -10, 5), 10, 0, 5, api.OK}, {nominal(), shape(-20, 5, -10, 5), 9, 0, 0, api.ErrNone},
		{nominal(), shape(-20, 5, -10, 5), 14, 4, 1, api.OK}, {nominal(), shape(0, 0, 1, 20), 35, 35, -5, api.OK},
		{shape(0, 0, 1, 0), shape(0, -1, 1, -2), 0, 1, -2, api.OK}, {shape(0, 0, 1, 0), shape(0, -1, 1, -1), 0, 0, -1, api.OK},
		{shape(9990, 0, 10000, 0), shape(9990, 5, 10000, 4), 5, 9995, 5, api.OK}, {shape(-10000, 0, -9990, 0), shape(-10000, 5, -9990, 4), -5, -9999, 4, api.OK},
	} {
		column, gap, e := profile.Contact(x.rail, x.wheel, x.shift)
		want(t, "Contact", list(i, column, gap, e), list(i, x.column, x.gap, x.e))
	}
}

// TestContactByDefinition checks where wheels touch rails, from the last common column on.
func TestContactByDefinition(t *testing.T) {
	g := source(21)
	none := 0
	for range 1000 {
		rail, wheel, shift := someProfile(g, 8, -30, 30, 20), someProfile(g, 8, -30, 30, 20), between(g, -50, 50)
		column, gap, e := 0, 0, api.ErrNone
		for c := 30; c >= -30; c-- {
			if !hasColumn(rail, c) || !hasColumn(wheel, c-shift) {
				continue
			}
			d := heightOf(wheel, c-shift) - heightOf(rail, c)
			if e == api.ErrNone || d <= gap {
				column, gap, e = c, d, api.OK
			}
		}
		if e != api.OK {
			none++
		}
		c, d, f := profile.Contact(rail, wheel, shift)
		want(t, "Contact", list(rail, wheel, shift, c, d, f), list(rail, wheel, shift, column, gap, e))
	}
	if none < 100 || none > 900 {
		t.Errorf("too many or too few wheels are beside the rail: %v", none)
	}
}

// TestCorrugation checks example 6, and windows that are not whole.
func TestCorrugation(t *testing.T) {
	for i, x := range []struct {
		integers []int
		sums     [3]int
		n        int
	}{
		{ints(16, -16, 16, -16), [3]int{0, 0, 4096}, 1},
		{ints(16, 0, -16, 0, 80), [3]int{0, 1024, 0}, 1},
		{ints(16, 16, 16, 16, 16, 0, 0, 0), [3]int{4352, 256, 256}, 2},
		{ints(16, none, 16, 16, 16, 0, 0, 0), [3]int{256, 256, 256}, 1},
		{nil, [3]int{}, 0}, {ints(1, 2, 3), [3]int{}, 0}, {ints(none, none, none, none), [3]int{}, 0}, {ints(0, 0, 0, 0), [3]int{}, 1},
		{ints(1, 2, 3, 4), [3]int{100, 8, 4}, 1}, {ints(1, 2, 3, 4, 5, 6, 7), [3]int{100, 8, 4}, 1},
		{ints(none, 1, 2, 3, 4), [3]int{}, 0}, {ints(none, 1, 2, 3, 4, 0, 0, 0), [3]int{16, 16, 16}, 1},
		{ints(1, 2, 3, none, 1, 2, 3, 4), [3]int{100, 8, 4}, 1}, {ints(1, 2, 3, 4, none, 2, 3, 4), [3]int{100, 8, 4}, 1}, {ints(1, 2, 3, 4, 1, 2, 3, none), [3]int{100, 8, 4}, 1},
		{ints(0, 1, 0, 0), [3]int{1, 1, 1}, 1}, {ints(0, 1, 0, -1), [3]int{0, 4, 0}, 1}, {ints(-1, -2, -3, -4, 1, 2, 3, 4, 4, 3, 2, 1), [3]int{300, 24, 12}, 3},
	} {
		for _, first := range []int{0, 1, 2, 3, 167} { // indices are those of windows, not places
			sums, n, e := profile.Corrugation(run(first, x.integers...))
			want(t, "Corrugation", list(i, first, sums, n, e), list(i, first, x.sums, x.n, api.OK))
		}
	}
}

// TestCorrugationByDefinition checks corrugations by the parts of transforms, written out.
func TestCorrugationByDefinition(t *testing.T) {
	g := source(22)
	windows := 0
	for range 1000 {
		integers := make([]int, g.IntN(60))
		for i := range integers {
			integers[i] = between(g, -16384, 16384)
			if g.IntN(8) == 0 {
				integers[i] = none
			}
		}
		var wanted [3]int
		count := 0
		for i := 0; i+3 < len(integers); i += 4 {
			a, b, c, d := integers[i], integers[i+1], integers[i+2], integers[i+3]
			if min(a, b, c, d) == none {
				continue
			}
			wanted[0] += (a + b + c + d) * (a + b + c + d)
			wanted[1] += (a-c)*(a-c) + (d-b)*(d-b)
			wanted[2] += (a - b + c - d) * (a - b + c - d)
			count++
		}
		windows += count
		sums, n, e := profile.Corrugation(run(g.IntN(9), integers...))
		want(t, "Corrugation", list(integers, sums, n, e), list(integers, wanted, count, api.OK))
	}
	if windows < 1000 {
		t.Errorf("too few windows: %v", windows)
	}
	zeros := run(0, 0, 0, 0, 0)
	for i := range zeros.Samples {
		zeros.Samples[i] = minusZero
	}
	sums, n, e := profile.Corrugation(zeros)
	want(t, "Corrugation of -0", list(sums, n, e), list([3]int{}, 1, api.OK))
}
