package fault_test

import (
	"testing"

	"versine/api"
	"versine/fault"
	"versine/sample"
)

// TestLimit checks example 1.
func TestLimit(t *testing.T) {
	for _, x := range [][2]int{{160, 64}, {159, 64}, {121, 64}, {120, 96}, {119, 96}, {100, 96}, {81, 96}, {80, 160}, {79, 160}, {1, 160}} {
		n, e := fault.Limit(shownLimits(), x[0])
		want(t, "Limit", list(x[0], n, e), list(x[0], x[1], api.OK))
	}
	for _, speed := range []int{161, 200, 500} {
		n, e := fault.Limit(shownLimits(), speed)
		want(t, "Limit", list(speed, n, e), list(speed, 0, api.ErrNone))
	}
	for _, x := range [][2]int{{0, 160}, {64, 160}, {-64, 160}, {65, 120}, {-65, 120}, {96, 120}, {97, 80}, {160, 80}, {-160, 80}, {161, 0}, {-161, 0}, {16384, 0}} {
		n, e := fault.Permitted(shownLimits(), x[0])
		want(t, "Permitted", list(x[0], n, e), list(x[0], x[1], api.OK))
	}
}

// most returns the greatest value for a speed, and whether there is one: the one of the slowest row that is as fast as the speed.
func most(l fault.Limits, speed int) (int, bool) {
	best := fault.Row{Speed: 501}
	for _, r := range l.Rows {
		if r.Speed >= speed && r.Speed < best.Speed {
			best = r
		}
	}
	return best.Most, best.Speed < 501
}

// permitted returns the greatest of all speeds for which a number is not above the greatest value, or 0 if there is none.
func permitted(l fault.Limits, n int) int {
	for speed := 500; speed > 0; speed-- {
		if limit, isAny := most(l, speed); isAny && n <= limit {
			return speed
		}
	}
	return 0
}

// TestAllSpeeds checks the limits for all speeds, and the speeds for values beside all limits.
func TestAllSpeeds(t *testing.T) {
	g := source(1)
	for range 60 {
		l := someLimits(g, 1000, 1<<g.IntN(15))
		want(t, "CheckLimits", list(l, fault.CheckLimits(l)), list(l, api.OK))
		for speed := 1; speed <= 500; speed++ {
			n, e := fault.Limit(l, speed)
			limit, isAny := most(l, speed)
			if !isAny {
				want(t, "Limit of no row", list(l, speed, n, e), list(l, speed, 0, api.ErrNone))
				continue
			}
			want(t, "Limit", list(l, speed, n, e), list(l, speed, limit, api.OK))
		}
		values := ints(0, 16384, g.IntN(16385))
		for _, r := range l.Rows {
			values = append(values, max(r.Most-1, 0), r.Most, min(r.Most+1, 16384))
		}
		for _, n := range values {
			for _, value := range []int{n, -n} {
				speed, e := fault.Permitted(l, value)
				want(t, "Permitted", list(l, value, speed, e), list(l, value, permitted(l, n), api.OK))
			}
		}
	}
}

// TestSpeeds checks example 2, and the edges of limits.
func TestSpeeds(t *testing.T) {
	for i, x := range []struct {
		l      fault.Limits
		r      sample.Run
		speeds []int
	}{
		{shownLimits(), shownRun(), ints(160, 120, 120, 120, 0, 80, 80, 160)},
		{shownLimits(), run(0, 56, -56, 57, -57, 88, 89, 152, -152, 153, -153), ints(160, 160, 120, 120, 120, 80, 80, 80, 0, 0)},
		{shownLimits(), run(0, none, none), ints(0, 0)},
		{shownLimits(), run(0), nil},
		{rows(0, 5, 0), run(7, 0, 1, -1, none, 0), ints(5, 0, 0, 0, 5)},
		{rows(1, 5, 0), run(7, 0), ints(0)},
		{rows(1000, 9, 1000), run(7, 0, 1), ints(9, 0)},
	} {
		speeds, e := fault.Speeds(x.l, x.r)
		want(t, "Speeds", list(i, speeds, e), list(i, x.speeds, api.OK))
	}
	r := run(5, 0)
	r.Samples[0] = minusZero
	speeds, e := fault.Speeds(shownLimits(), r)
	want(t, "Speeds of -0", list(speeds, e), list(ints(160), api.OK))
}

// TestSpeedsByDefinition checks safe speeds against those that are permitted for values with the band.
func TestSpeedsByDefinition(t *testing.T) {
	g := source(2)
	for range 150 {
		bound := 1 << g.IntN(15)
		l, r := someLimits(g, min(bound, 1000), bound), someRun(g, 40, bound)
		var wanted []int
		for i := range r.Samples {
			x, isKnown, _ := sample.At(r, r.First+i)
			if !isKnown {
				wanted = append(wanted, 0)
				continue
			}
			wanted = append(wanted, permitted(l, int(16*max(x, -x))+l.Band))
		}
		speeds, e := fault.Speeds(l, r)
		want(t, "Speeds", list(l, r, speeds, e), list(l, r, wanted, api.OK))
	}
}
