package profile_test

import (
	"math/big"
	"slices"
	"testing"

	"versine/api"
	"versine/profile"
)

// TestHeight checks example 1, and heights between integers.
func TestHeight(t *testing.T) {
	for i, x := range []struct {
		p      profile.Profile
		column int
		h      int
	}{
		{nominal(), 5, 5}, {worn(), 5, 4}, {nominal(), 20, 10}, {worn(), 20, 9}, {nominal(), 35, 5}, {worn(), 35, 5},
		{nominal(), 0, 0}, {nominal(), 10, 10}, {nominal(), 30, 10}, {nominal(), 40, 0}, {nominal(), 1, 1}, {nominal(), 39, 1},
		{worn(), 19, 8}, {worn(), 1, 1}, {worn(), 31, 8}, {worn(), 32, 7},
		{shape(0, 0, 2, 1), 1, 1}, {shape(0, 0, 2, -1), 1, 0}, {shape(0, 1, 2, 0), 1, 1}, {shape(0, -1, 2, 0), 1, 0}, {shape(0, -1, 2, -2), 1, -1},
		{shape(0, 0, 3, 1), 1, 0}, {shape(0, 0, 3, 1), 2, 1}, {shape(0, 0, 3, -1), 1, 0}, {shape(0, 0, 3, -1), 2, -1},
		{shape(-5, 7, -4, 9), -5, 7}, {shape(-5, 7, -4, 9), -4, 9},
		{shape(-10000, -10000, 10000, 10000), 77, 77}, {shape(-10000, 1, 10000, 0), 0, 1}, {shape(-10000, 1, 10000, 0), 1, 0},
	} {
		h, e := profile.Height(x.p, x.column)
		want(t, "Height", list(i, h, e), list(i, x.h, api.OK))
	}
}

// TestHeightsOfLines checks the heights of some profiles at all columns by their definition.
func TestHeightsOfLines(t *testing.T) {
	g := source(1)
	for range 400 {
		p := someProfile(g, 24, -40, 40, 1<<g.IntN(14))
		first, last := ends(p)
		for column := first - 2; column <= last+2; column++ {
			h, e := profile.Height(p, column)
			if !hasColumn(p, column) {
				want(t, "Height outside", list(p, column, h, e), list(p, column, 0, api.ErrSpan))
				continue
			}
			want(t, "Height", list(p, column, h, e), list(p, column, heightOf(p, column), api.OK))
		}
	}
}

// TestArea checks example 1, and some areas.
func TestArea(t *testing.T) {
	for i, x := range []struct {
		p profile.Profile
		a int
	}{
		{nominal(), 600}, {worn(), 510}, {wheel(), 1280}, {shape(0, -3, 4, 1), -8}, {shape(5, 1, 6, 0), 1}, {shape(-5, 1, 5, -1), 0}, {shape(3, 7, 5, 7), 28}, {shape(-1, -1, 0, -1, 1, 4), 1},
	} {
		a, e := profile.Area(x.p)
		want(t, "Area", list(i, a, e), list(i, x.a, api.OK))
	}
}

// TestAreaOfLines checks areas by the lines at the middles between columns, which no two points have between them.
func TestAreaOfLines(t *testing.T) {
	g := source(2)
	for range 300 {
		p := someProfile(g, 24, -30, 30, 1000)
		sum := new(big.Rat)
		first, last := ends(p)
		for column := first; column < last; column++ {
			sum.Add(sum, line(p, column))
			sum.Add(sum, line(p, column+1))
		}
		a, e := profile.Area(p)
		want(t, "Area", list(p, a, e), list(p, int(sum.Num().Int64()), api.OK))
		want(t, "the area of lines", list(sum.IsInt()), list(true))
	}
}

func TestMoved(t *testing.T) {
	for i, x := range []struct {
		by [2]int
		p  profile.Profile
	}{
		{[2]int{2, -1}, shape(2, -1, 12, 9, 32, 9, 42, -1)}, {[2]int{}, nominal()}, {[2]int{-100, 0}, shape(-100, 0, -90, 10, -70, 10, -60, 0)},
		{[2]int{0, 100}, shape(0, 100, 10, 110, 30, 110, 40, 100)}, {[2]int{100, -100}, movedBy(nominal(), 100, -100)},
	} {
		p, e := profile.Moved(nominal(), x.by)
		want(t, "Moved", list(i, p, e), list(i, x.p, api.OK))
	}
}

// TestMovedToTheEdge checks that a profile is moved up to the ends of its range, and not behind them.
func TestMovedToTheEdge(t *testing.T) {
	g := source(3)
	large := 0
	for range 2000 {
		p := someProfile(g, 5, -10000, 10000, 10000)
		if g.IntN(2) == 0 {
			p = someProfile(g, 5, 9890, 9950, 50)
		}
		x, y := between(g, -100, 100), between(g, -100, 100)
		wanted, e := movedBy(p, x, y), api.OK
		for _, a := range wanted {
			if max(a.X, -a.X, a.Y, -a.Y) > 10000 {
				e = api.ErrLarge
			}
		}
		if e != api.OK {
			wanted = nil
			large++
		}
		got, f := profile.Moved(p, [2]int{x, y})
		want(t, "Moved", list(p, x, y, got, f), list(p, x, y, wanted, e))
	}
	if large < 100 || large > 1900 {
		t.Errorf("too many or too few profiles are too large: %v", large)
	}
}

func TestMirrored(t *testing.T) {
	for i, x := range []struct{ p, m profile.Profile }{
		{nominal(), shape(-40, 0, -30, 10, -10, 10, 0, 0)}, {worn(), shape(-40, 0, -30, 9, -10, 8, 0, 0)}, {wheel(), shape(-40, 20, -20, 12, 0, 20)},
		{shape(-3, 5, 7, -6), shape(-7, -6, 3, 5)}, {shape(-10000, 1, -9999, 2), shape(9999, 2, 10000, 1)}, {shape(-1, 0, 0, 3, 1, 0), shape(-1, 0, 0, 3, 1, 0)},
	} {
		m, e := profile.Mirrored(x.p)
		want(t, "Mirrored", list(i, m, e), list(i, x.m, api.OK))
	}
}

func TestPlain(t *testing.T) {
	for i, x := range []struct{ p, f profile.Profile }{
		{nominal(), nominal()}, {worn(), worn()}, {shape(0, 0, 5, 0), shape(0, 0, 5, 0)},
		{shape(0, 0, 1, 1, 2, 2, 3, 3), shape(0, 0, 3, 3)},
		{shape(0, 0, 1, 1, 3, 3, 4, 0, 5, -3), shape(0, 0, 3, 3, 5, -3)},
		{shape(0, 0, 1, 0, 3, 1), shape(0, 0, 1, 0, 3, 1)}, // the heights are the same, the lines are not
		{shape(0, 0, 2, 1, 4, 2, 5, 3), shape(0, 0, 4, 2, 5, 3)},
		{shape(0, 0, 2, 4, 3, 6), shape(0, 0, 3, 6)},
		{shape(0, 0, 2, 4, 3, 7), shape(0, 0, 2, 4, 3, 7)},
		{shape(0, 0, 2, -4, 3, -6), shape(0, 0, 3, -6)},
		{shape(0, 0, 2, 4, 4, 0), shape(0, 0, 2, 4, 4, 0)},
		{shape(-10000, -10000, -1, -1, 10000, 10000), shape(-10000, -10000, 10000, 10000)},
		{shape(-10000, -10000, -1, 0, 10000, 10000), shape(-10000, -10000, -1, 0, 10000, 10000)},
		{shape(-7, 3, -2, 3, 0, 3, 9, 3), shape(-7, 3, 9, 3)},
		{shape(0, 0, 1, 1, 2, 2, 3, 2, 4, 2, 5, 3, 6, 4), shape(0, 0, 2, 2, 4, 2, 6, 4)},
	} {
		f, e := profile.Plain(x.p)
		want(t, "Plain", list(i, f, e), list(i, x.f, api.OK))
	}
}

// isOnLine reports whether a point lies on the straight line through two others.
func isOnLine(x, a, b profile.Point) bool {
	return line(profile.Profile{a, b}, x.X).Cmp(quotient(x.Y, 1)) == 0
}

// TestPlainByDefinition checks that a profile that is made plain is plain, has points of the profile alone, and has the same straight lines.
func TestPlainByDefinition(t *testing.T) {
	g := source(4)
	taken := 0
	for range 3000 {
		p := someProfile(g, 24, -30, 30, 1<<g.IntN(3)-1)
		if g.IntN(2) == 0 { // with points on its lines
			p = withLines(p)
		}
		f, e := profile.Plain(p)
		want(t, "the error of Plain", list(p, e, profile.CheckProfile(f)), list(p, api.OK, api.OK))
		for i := 1; i+1 < len(f); i++ {
			if isOnLine(f[i], f[i-1], f[i+1]) {
				t.Errorf("Plain of %v: got %v, which is not plain at %v", p, f, i)
			}
		}
		for _, x := range f {
			if !slices.Contains(p, x) {
				t.Errorf("Plain of %v: got %v, with a new point %v", p, f, x)
			}
		}
		first, last := ends(p)
		for column := first; column <= last; column++ {
			if !hasColumn(f, column) || line(f, column).Cmp(line(p, column)) != 0 {
				t.Errorf("Plain of %v: got %v, with another line at %v", p, f, column)
			}
		}
		taken += len(p) - len(f)
		again, e := profile.Plain(f)
		want(t, "Plain again", list(again, e), list(f, api.OK))
	}
	if taken < 3000 {
		t.Errorf("too few points are taken away: %v", taken)
	}
}

// withLines returns a profile with the points on its lines that have integers, as many as there may be.
func withLines(p profile.Profile) profile.Profile {
	var out profile.Profile
	first, last := ends(p)
	for column := first; column <= last; column++ {
		isPoint := slices.ContainsFunc(p, func(x profile.Point) bool { return x.X == column })
		after := 0 // points that must still have room
		for _, x := range p {
			if x.X > column {
				after++
			}
		}
		if isPoint || line(p, column).IsInt() && len(out)+after < profile.MaxPoints {
			out = append(out, point(column, heightOf(p, column)))
		}
	}
	return out
}
