package profile_test

import (
	"slices"
	"testing"

	"versine/api"
	"versine/profile"
)

// TestHeightsLieBetween checks that a height lies between those of the points beside it.
func TestHeightsLieBetween(t *testing.T) {
	g := source(40)
	for range 500 {
		p := someProfile(g, 24, -40, 40, 1<<g.IntN(14))
		for i, b := range p[1:] {
			a := p[i]
			for column := a.X; column <= b.X; column++ {
				h, e := profile.Height(p, column)
				if e != api.OK || h < min(a.Y, b.Y) || h > max(a.Y, b.Y) {
					t.Errorf("Height of %v at %v: got %v, %v, which is not between %v and %v", p, column, h, e, a, b)
				}
			}
		}
	}
}

// TestThereAndBack checks that what is moved there and back, and what is mirrored twice, is the same, with the same area.
func TestThereAndBack(t *testing.T) {
	g := source(41)
	back := 0
	for range 2000 {
		p := someProfile(g, 24, -40, 40, 1<<g.IntN(14))
		area, e := profile.Area(p)
		want(t, "the error of Area", list(e), list(api.OK))
		by := [2]int{between(g, -100, 100), between(g, -100, 100)}
		if moved, e := profile.Moved(p, by); e == api.OK {
			back++
			first, last := ends(p)
			other, e := profile.Area(moved)
			want(t, "the area of a moved profile", list(p, by, other, e), list(p, by, area+2*by[1]*(last-first), api.OK))
			again, e := profile.Moved(moved, [2]int{-by[0], -by[1]})
			want(t, "moved there and back", list(again, e), list(p, api.OK))
			other, e = profile.Area(again)
			want(t, "the area of what is moved there and back", list(other, e), list(area, api.OK))
		}
		mirrored, e1 := profile.Mirrored(p)
		other, e2 := profile.Area(mirrored)
		want(t, "the area of a mirrored profile", list(other, e1, e2), list(area, api.OK, api.OK))
		again, e := profile.Mirrored(mirrored)
		want(t, "mirrored twice", list(again, e), list(p, api.OK))
		for _, x := range p {
			h, e := profile.Height(mirrored, -x.X)
			want(t, "the height of a mirrored profile", list(h, e), list(x.Y, api.OK))
		}
	}
	if back < 1000 {
		t.Errorf("too few profiles are moved back: %v", back)
	}
}

// TestPlainHeights checks that a plain profile has the same heights, the same area, and the same ends.
func TestPlainHeights(t *testing.T) {
	g := source(42)
	for range 800 {
		p := withLines(someProfile(g, 24, -30, 30, 1<<g.IntN(5)))
		plain, e := profile.Plain(p)
		want(t, "the error of Plain", list(e), list(api.OK))
		first, last := ends(p)
		a, b := ends(plain)
		want(t, "the ends of a plain profile", list(p, a, b), list(p, first, last))
		for column := first; column <= last; column++ {
			h, e := profile.Height(p, column)
			other, f := profile.Height(plain, column)
			want(t, "the height of a plain profile", list(p, column, other, f), list(p, column, h, e))
		}
		area, _ := profile.Area(p)
		other, e := profile.Area(plain)
		want(t, "the area of a plain profile", list(p, other, e), list(p, area, api.OK))
	}
}

// TestNoWearAgainstItself checks it, and that a moved profile is fitted back without any cost.
func TestNoWearAgainstItself(t *testing.T) {
	g := source(43)
	for range 300 {
		p := someProfile(g, 24, -40, 40, 1<<g.IntN(13))
		first, last := ends(p)
		columns := someColumns(g, 64, first, last)
		w, e := profile.Wear(p, p, columns)
		want(t, "the wear against itself", list(p, columns, w, e), list(p, columns, make([]int, len(columns)), api.OK))
		worst, at, e := profile.Worst(p, p, columns)
		want(t, "the worst wear against itself", list(worst, at, e), list(0, columns[0], api.OK))
		by, cost, e := profile.Fit(p, p, columns, g.IntN(9))
		want(t, "the fit to itself", list(by, cost, e), list([2]int{}, 0, api.OK))

		most := g.IntN(9)
		there := [2]int{between(g, -most, most), between(g, -most, most)}
		moved, e := profile.Moved(p, there)
		want(t, "the error of Moved", list(e), list(api.OK))
		by, cost, e = profile.Fit(p, moved, columns, most)
		want(t, "the cost of a moved profile", list(p, columns, there, cost, e), list(p, columns, there, 0, api.OK))
		if distance(by[0], 0)+distance(by[1], 0) > distance(there[0], 0)+distance(there[1], 0) {
			t.Errorf("the fit of a moved profile: got %v, which is longer than %v", by, there)
		}
		back, e := profile.Moved(moved, by)
		want(t, "the error of Moved", list(e), list(api.OK))
		w, e = profile.Wear(p, back, columns)
		want(t, "the wear of what is fitted", list(w, e), list(make([]int, len(columns)), api.OK))
	}
}

// TestNoMoveCostsLess checks that no permitted move costs less than the fit, whose cost is that of its move.
func TestNoMoveCostsLess(t *testing.T) {
	g := source(44)
	fits := 0
	for range 200 {
		nominal, p, columns, most := someFit(g)
		by, least, e := profile.Fit(nominal, p, columns, most)
		if e == api.OK {
			fits++
			cost, e := profile.Cost(nominal, p, columns, by)
			want(t, "the cost of the fit", list(nominal, p, columns, most, cost, e), list(nominal, p, columns, most, least, api.OK))
			wider, other, e := profile.Fit(nominal, p, columns, min(most+1, 8))
			if e != api.OK || other > least {
				t.Errorf("the fit of %v to %v at %v up to more than %v: got %v, %v, %v, with a cost above %v", p, nominal, columns, most, wider, other, e, least)
			}
		}
		for x := -most; x <= most; x++ {
			for y := -most; y <= most; y++ {
				cost, f := profile.Cost(nominal, p, columns, [2]int{x, y})
				if f == api.OK && (e != api.OK || cost < least) {
					t.Errorf("the fit of %v to %v at %v up to %v: got %v, %v, %v, and %v by %v, %v", p, nominal, columns, most, by, least, e, cost, x, y)
				}
			}
		}
	}
	if fits < 50 {
		t.Errorf("too few profiles have a fit: %v", fits)
	}
}

// TestWheelMovedUp checks that a wheel that is moved up has the same contact, with a greater gap, and that one that is moved sideways is one with a shift.
func TestWheelMovedUp(t *testing.T) {
	g := source(45)
	touching := 0
	for range 1500 {
		rail, wheel, shift := someProfile(g, 8, -30, 30, 20), someProfile(g, 8, -30, 30, 20), between(g, -40, 40)
		up := between(g, 1, 100)
		moved, e := profile.Moved(wheel, [2]int{0, up})
		want(t, "the error of Moved", list(e), list(api.OK))
		column, gap, e := profile.Contact(rail, wheel, shift)
		other, greater, f := profile.Contact(rail, moved, shift)
		if e == api.OK {
			touching++
			gap += up
		}
		want(t, "a wheel that is moved up", list(rail, wheel, shift, up, other, greater, f), list(rail, wheel, shift, up, column, gap, e))
		aside, e1 := profile.Moved(wheel, [2]int{shift, up})
		other, greater, f = profile.Contact(rail, aside, 0)
		want(t, "a wheel that is moved aside", list(rail, wheel, shift, e1, other, greater, f), list(rail, wheel, shift, api.OK, column, gap, e))
	}
	if touching < 500 {
		t.Errorf("too few wheels touch: %v", touching)
	}
}

// isPart reports whether all elements of a list are those of another one, in its order.
func isPart[T comparable](l, whole []T) bool {
	for _, x := range whole {
		if len(l) > 0 && l[0] == x {
			l = l[1:]
		}
	}
	return len(l) == 0
}

// TestGreaterReach checks that echoes of a greater reach have no more clusters, each of which is one of a lesser reach, or some together; and that each echo is in one cluster.
func TestGreaterReach(t *testing.T) {
	g := source(46)
	fewer := 0
	for range 800 {
		probes, l := someEchoes(g, 40)
		reach := g.IntN(12)
		more := between(g, reach, 20)
		clusters, e := profile.Clusters(probes, l, reach)
		others, f := profile.Clusters(probes, l, more)
		want(t, "the errors of Clusters", list(e, f), list(api.OK, api.OK))
		if len(others) > len(clusters) {
			t.Errorf("the clusters of %v, %v: got %v by %v, and %v by %v", probes, l, clusters, reach, others, more)
		}
		if len(others) < len(clusters) {
			fewer++
		}
		for _, c := range clusters {
			if !slices.ContainsFunc(others, func(d []int) bool { return isPart(c, d) }) {
				t.Errorf("the clusters of %v, %v by %v: got %v, without %v together", probes, l, more, others, c)
			}
		}
		all := slices.Concat(others...)
		slices.Sort(all)
		want(t, "the echoes of all clusters", list(all), list(count(0, len(l))))
		if !slices.IsSortedFunc(others, func(c, d []int) int { return c[0] - d[0] }) {
			t.Errorf("the clusters of %v, %v by %v: got %v, not in the order of their first echoes", probes, l, more, others)
		}
	}
	if fewer < 200 {
		t.Errorf("too few echoes have fewer clusters: %v", fewer)
	}
}

// TestFurtherRules checks that a rule more only adds classes: its own.
func TestFurtherRules(t *testing.T) {
	g := source(47)
	added := 0
	for range 800 {
		probes, l := someEchoes(g, 20)
		reach, rules := g.IntN(6), someRules(g)
		if len(rules) == 0 {
			continue
		}
		k := g.IntN(len(rules))
		class := rules[k].Class
		fewer := slices.Delete(slices.Clone(rules), k, k+1)
		before, e := profile.Possible(probes, l, reach, fewer)
		after, f := profile.Possible(probes, l, reach, rules)
		want(t, "Possible with a rule more", list(e, f, len(after)), list(api.OK, api.OK, len(before)))
		for i := range min(len(before), len(after)) {
			if !isPart(before[i], after[i]) {
				t.Errorf("the classes of the cluster %v of %v, %v by %v: got %v for %v, and %v for %v", i, probes, l, reach, before[i], fewer, after[i], rules)
			}
			if slices.Contains(after[i], class) {
				added++
			}
			without := slices.DeleteFunc(slices.Clone(after[i]), func(s string) bool { return s == class })
			want(t, "the other classes", list(without), list(before[i]))
		}
	}
	if added < 300 {
		t.Errorf("too few classes are added: %v", added)
	}
}

// TestTextsComeBack checks that profiles are parsed as they were printed.
func TestTextsComeBack(t *testing.T) {
	g := source(48)
	for range 1000 {
		p := someProfile(g, 24, -10000, 10000, 10000)
		s, e := profile.Print(p)
		back, line, f := profile.Parse(s)
		want(t, "Parse of Print", list(e, back, line, f), list(api.OK, p, 0, api.OK))
		again, e := profile.Print(back)
		want(t, "Print again", list(again, e), list(s, api.OK))
	}
}
