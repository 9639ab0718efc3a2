package profile_test

import (
	"math/rand/v2"
	"testing"

	"versine/api"
	"versine/profile"
)

// TestWear checks example 2, and wear of both signs.
func TestWear(t *testing.T) {
	for i, x := range []struct {
		nominal, p profile.Profile
		columns    []int
		w          []int
		worst, at  int
	}{
		{nominal(), worn(), ints(5, 20, 35), ints(1, 1, 0), 1, 5},
		{worn(), nominal(), ints(5, 20, 35), ints(-1, -1, 0), 0, 35},
		{nominal(), worn(), ints(0, 10), ints(0, 2), 2, 10},
		{nominal(), worn(), ints(10), ints(2), 2, 10},
		{worn(), nominal(), ints(10, 20), ints(-2, -1), -1, 20},
		{worn(), nominal(), ints(10), ints(-2), -2, 10},
		{worn(), nominal(), ints(5, 10, 11, 20), ints(-1, -2, -2, -1), -1, 5},
		{nominal(), nominal(), ints(0, 1, 40), ints(0, 0, 0), 0, 0},
		{shape(0, 10, 40, 10), shape(20, 0, 60, 40), ints(20, 30, 40), ints(10, 0, -10), 10, 20},
		{shape(-5, -10000, 0, 0), shape(-5, 10000, 0, 1), ints(-5), ints(-20000), -20000, -5},
		{shape(-30, 0, -20, 0, -10, 0), shape(-30, 0, -20, -7, -10, -7), ints(-30, -20, -15, -10), ints(0, 7, 7, 7), 7, -20},
	} {
		w, e := profile.Wear(x.nominal, x.p, x.columns)
		want(t, "Wear", list(i, w, e), list(i, x.w, api.OK))
		worst, at, e := profile.Worst(x.nominal, x.p, x.columns)
		want(t, "Worst", list(i, worst, at, e), list(i, x.worst, x.at, api.OK))
	}
}

// wearOf returns the wear at columns by its definition.
func wearOf(nominal, p profile.Profile, columns []int) []int {
	var out []int
	for _, column := range columns {
		out = append(out, heightOf(nominal, column)-heightOf(p, column))
	}
	return out
}

// firstFault returns the error of columns that all of these profiles must have, by its definition.
func firstFault(columns []int, profiles ...profile.Profile) api.Errno {
	for i, column := range columns {
		for _, p := range profiles {
			if !hasColumn(p, column) {
				return api.ErrSpan
			}
		}
		if i > 0 && columns[i-1] >= column {
			return api.ErrOrder
		}
	}
	return api.OK
}

// TestWearOfLines checks the wear, the worst one and its error by their definitions.
func TestWearOfLines(t *testing.T) {
	g := source(10)
	right := 0
	for range 2000 {
		a, b := someProfile(g, 8, -20, 20, 50), someProfile(g, 24, -20, 20, 50)
		columns := someColumns(g, 6, -16, 16)
		if g.IntN(3) == 0 {
			g.Shuffle(len(columns), func(i, k int) { columns[i], columns[k] = columns[k], columns[i] })
		}
		wear, worst, at, e := []int(nil), 0, 0, firstFault(columns, a, b)
		if e == api.OK {
			right++
			wear = wearOf(a, b, columns)
			for i := len(wear) - 1; i >= 0; i-- {
				if i == len(wear)-1 || wear[i] >= worst {
					worst, at = wear[i], columns[i]
				}
			}
		}
		w, f := profile.Wear(a, b, columns)
		want(t, "Wear", list(a, b, columns, w, f), list(a, b, columns, wear, e))
		n, column, f := profile.Worst(a, b, columns)
		want(t, "Worst", list(a, b, columns, n, column, f), list(a, b, columns, worst, at, e))
	}
	if right < 500 || right > 1900 {
		t.Errorf("too many or too few columns are right: %v", right)
	}
}

// TestCost checks example 3.
func TestCost(t *testing.T) {
	moved := shape(2, -1, 12, 9, 32, 9, 42, -1)
	columns := ints(10, 20, 30, 35)
	for i, x := range []struct {
		p    profile.Profile
		by   [2]int
		cost int
		e    api.Errno
	}{
		{moved, [2]int{}, 12, api.OK}, {moved, [2]int{-2, 1}, 0, api.OK}, {moved, [2]int{-2, 0}, 4, api.OK}, {moved, [2]int{-2, 100}, 4 * 99 * 99, api.OK},
		{nominal(), [2]int{0, -100}, 40000, api.OK}, {nominal(), [2]int{5, 0}, 25 + 25, api.OK}, {nominal(), [2]int{10, 0}, 100 + 25, api.OK}, {nominal(), [2]int{11, 0}, 0, api.ErrRule},
		{nominal(), [2]int{-5, 0}, 25 + 25, api.OK}, {nominal(), [2]int{-6, 0}, 0, api.ErrRule},
		{shape(5, 10, 40, 10), [2]int{}, 25, api.OK}, {shape(5, 10, 40, 10), [2]int{5, 0}, 25, api.OK}, {shape(5, 10, 40, 10), [2]int{6, 0}, 0, api.ErrRule},
		{moved, [2]int{101, 0}, 0, api.ErrRange},
	} {
		cost, e := profile.Cost(nominal(), x.p, columns, x.by)
		want(t, "Cost", list(i, cost, e), list(i, x.cost, x.e))
	}
}

// costOf returns the cost of a move, and whether the moved profile is one and has all columns, by the definition.
func costOf(nominal, p profile.Profile, columns []int, x, y int) (int, bool) {
	moved := movedBy(p, x, y)
	for _, a := range moved {
		if max(a.X, -a.X, a.Y, -a.Y) > 10000 {
			return 0, false
		}
	}
	if firstFault(columns, moved) != api.OK {
		return 0, false
	}
	sum := 0
	for _, n := range wearOf(nominal, moved, columns) {
		sum += n * n
	}
	return sum, true
}

// fitOf returns the fit, its cost, and whether there is one: the first of the least cost, of all permitted moves in the order in which they are preferred.
func fitOf(nominal, p profile.Profile, columns []int, most int) ([2]int, int, bool) {
	var fit [2]int
	least, isAny := 0, false
	for size := range 2*most + 1 {
		for x := -most; x <= most; x++ {
			for y := -most; y <= most; y++ {
				if distance(x, 0)+distance(y, 0) != size {
					continue
				}
				cost, isOne := costOf(nominal, p, columns, x, y)
				if isOne && (!isAny || cost < least) {
					fit, least, isAny = [2]int{x, y}, cost, true
				}
			}
		}
	}
	return fit, least, isAny
}

// TestFit checks example 3, and fits that are chosen of several moves.
func TestFit(t *testing.T) {
	moved := shape(2, -1, 12, 9, 32, 9, 42, -1)
	level := shape(0, 0, 10, 0)
	for i, x := range []struct {
		a, b    profile.Profile
		columns []int
		most    int
		by      [2]int
		cost    int
		e       api.Errno
	}{
		{nominal(), moved, ints(10, 20, 30, 35), 3, [2]int{-2, 1}, 0, api.OK},
		{nominal(), moved, ints(10, 20, 30, 35), 2, [2]int{-2, 1}, 0, api.OK},
		{nominal(), moved, ints(10, 20, 30, 35), 0, [2]int{}, 12, api.OK},
		{nominal(), moved, ints(20), 1, [2]int{0, 1}, 0, api.OK}, // whatever the first number is
		{nominal(), moved, ints(20), 0, [2]int{}, 1, api.OK},
		{level, level, ints(0, 10), 2, [2]int{}, 0, api.OK},
		{level, shape(12, 0, 13, 0), ints(5), 8, [2]int{-7, 0}, 0, api.OK},
		{level, shape(12, 0, 13, 0), ints(5), 7, [2]int{-7, 0}, 0, api.OK},
		{level, shape(12, 0, 13, 0), ints(5), 6, [2]int{}, 0, api.ErrInfeasible},
		{level, shape(-3, 0, -2, 0), ints(5), 8, [2]int{7, 0}, 0, api.OK},
		{level, shape(-3, 0, -2, 0), ints(6), 8, [2]int{8, 0}, 0, api.OK},
		{level, shape(-3, 0, -2, 0), ints(7), 8, [2]int{}, 0, api.ErrInfeasible},
		// -1, 0 is as good as 1, 0: the lesser first number.
		{shape(0, 0, 10, 0), shape(-5, 0, 5, 10, 15, 0), ints(5), 1, [2]int{-1, -1}, 64, api.OK},
		{shape(0, 1, 10, 1), shape(-5, 0, 5, 2, 15, 0), ints(5), 5, [2]int{0, -1}, 0, api.OK},
		{shape(0, 0, 10, 0), shape(-5, -5, 5, 0, 15, -5), ints(4), 1, [2]int{}, 0, api.OK},
		{shape(0, 0, 10, 0), shape(-10, -10, 0, 0, 10, -10), ints(0), 0, [2]int{}, 0, api.OK},
		{shape(0, 0, 20, 20), shape(0, 1, 20, 21), ints(5, 6), 3, [2]int{0, -1}, 0, api.OK},  // not 1, 0
		{shape(0, 0, 20, 20), shape(0, 2, 20, 22), ints(5, 6), 3, [2]int{0, -2}, 0, api.OK},  // nor 1, -1, nor 2, 0
		{shape(0, 0, 20, 20), shape(0, -2, 20, 18), ints(5, 6), 3, [2]int{-2, 0}, 0, api.OK}, // not -1, 1, nor 0, 2
		{shape(0, 3, 20, 3), shape(-9, 0, 10, 0, 11, 4, 20, 4), ints(10), 1, [2]int{-1, -1}, 0, api.OK},
	} {
		by, cost, e := profile.Fit(x.a, x.b, x.columns, x.most)
		want(t, "Fit", list(i, by, cost, e), list(i, x.by, x.cost, x.e))
	}
}

// someFit returns arguments of a fit for which several moves often have the least cost.
func someFit(g *rand.Rand) (nominal, p profile.Profile, columns []int, most int) {
	bound := 1 << g.IntN(4)
	nominal = someProfile(g, 2+g.IntN(5), -20, 20, bound)
	p = someProfile(g, 2+g.IntN(5), -20, 20, bound)
	if g.IntN(3) == 0 {
		p = movedBy(nominal, between(g, -4, 4), between(g, -4, 4))
	}
	first, last := ends(nominal)
	return nominal, p, someColumns(g, 1<<g.IntN(4), first, last), g.IntN(9)
}

// TestFitByDefinition checks fits and their costs against all moves.
func TestFitByDefinition(t *testing.T) {
	g := source(11)
	none, still := 0, 0
	for range 250 {
		nominal, p, columns, most := someFit(g)
		fit, cost, isAny := fitOf(nominal, p, columns, most)
		e := okIf(isAny, api.ErrInfeasible)
		by, n, f := profile.Fit(nominal, p, columns, most)
		want(t, "Fit", list(nominal, p, columns, most, by, n, f), list(nominal, p, columns, most, fit, cost, e))
		if !isAny {
			none++
		}
		if fit == [2]int{} {
			still++
		}
	}
	if none < 10 || none > 150 || still > 200 {
		t.Errorf("too many or too few profiles have no fit, or need no move: %v, %v", none, still)
	}
}

// okIf returns OK if it is so, and the error otherwise.
func okIf(is bool, e api.Errno) api.Errno {
	if is {
		return api.OK
	}
	return e
}

// TestFitAtTheEdge checks that a fit does not leave the range of profiles.
func TestFitAtTheEdge(t *testing.T) {
	for i, x := range []struct {
		a, b profile.Profile
		by   [2]int
		cost int
	}{
		{shape(0, 10000, 10, 10000), shape(0, 9997, 10, 9997), [2]int{0, 3}, 0},
		{shape(0, 9990, 10, 9990), shape(-20, 9980, 20, 9980, 30, 9998), [2]int{0, 2}, 2 * 64},
		{shape(0, -9990, 10, -9990), shape(-20, -9980, 20, -9980, 30, -9998), [2]int{0, -2}, 2 * 64},
		{shape(9980, -1, 9990, 9), shape(9970, 0, 9998, 28), [2]int{2, -8}, 2},
		{shape(-9990, 9, -9980, -1), shape(-9998, 28, -9970, 0), [2]int{-2, -8}, 2},
	} {
		columns := ints(x.a[0].X, x.a[1].X)
		fit, cost, _ := fitOf(x.a, x.b, columns, 8)
		want(t, "the fit by its definition", list(i, fit, cost), list(i, x.by, x.cost))
		by, n, e := profile.Fit(x.a, x.b, columns, 8)
		want(t, "Fit at the edge", list(i, by, n, e), list(i, x.by, x.cost, api.OK))
	}
}

// TestCostByDefinition checks costs of all moves, also of those that a fit does not try.
func TestCostByDefinition(t *testing.T) {
	g := source(12)
	right := 0
	for range 2000 {
		nominal, p, columns, most := someFit(g)
		if g.IntN(4) == 0 {
			most = 100
		}
		x, y := between(g, -most, most), between(g, -most, most)
		cost, isOne := costOf(nominal, p, columns, x, y)
		if isOne {
			right++
		}
		n, e := profile.Cost(nominal, p, columns, [2]int{x, y})
		want(t, "Cost", list(nominal, p, columns, x, y, n, e), list(nominal, p, columns, x, y, cost, okIf(isOne, api.ErrRule)))
	}
	if right < 400 || right > 1800 {
		t.Errorf("too many or too few moves are permitted: %v", right)
	}
}
