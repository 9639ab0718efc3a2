package profile_test

import (
	"math/rand/v2"
	"slices"
	"testing"

	"versine/api"
	"versine/profile"
)

// TestChecksOfEchoes checks the functions that check probes and rules alone.
func TestChecksOfEchoes(t *testing.T) {
	for i, b := range badProbes() {
		want(t, "CheckProbes", list(i, profile.CheckProbes(b.x)), list(i, b.e))
	}
	for i, b := range badRules() {
		want(t, "CheckRules", list(i, profile.CheckRules(b.x)), list(i, b.e))
	}
	for i, b := range badProfiles() {
		want(t, "CheckProfile", list(i, profile.CheckProfile(b.x)), list(i, b.e))
	}
	want(t, "CheckRules of two classes that differ by their letters", list(profile.CheckRules([]profile.Rule{rule("a", 0, 0, 0, 0, 0, 0, 0, 0), rule("A", 0, 0, 0, 0, 0, 0, 0, 0)})), list(api.OK))
	// The third rule has the class of the first one.
	l := manyRules(3)
	l[2].Class = l[0].Class
	want(t, "CheckRules of a class that comes again", list(profile.CheckRules(l)), list(api.ErrTwice))
	// There are as many probes as there are slopes.
	for n := range 5 {
		probes := make([]int, n+1)
		_, e := profile.Placed(probes, echoes(n, 0, 1))
		_, f := profile.Placed(probes, echoes(n+1, 0, 1))
		want(t, "the last probe", list(n, e, f), list(n, api.OK, api.ErrUnknown))
	}
}

// TestPlaced checks example 7.
func TestPlaced(t *testing.T) {
	for i, x := range []struct {
		probes []int
		l      []profile.Echo
		points []profile.Point
	}{
		{shownProbes(), shownEchoes(), []profile.Point{point(100, 10), point(100, 10), point(101, 11), point(200, 5)}},
		{ints(-3, 3), echoes(1, 0, 7, 0, 0, 7, 0, 21, 7), []profile.Point{point(21, 7), point(-21, 7), point(0, 7)}},
		{ints(2), echoes(0, 5, 1000), []profile.Point{point(2005, 1000)}},
		{ints(2), nil, nil},
	} {
		l, e := profile.Placed(x.probes, x.l)
		want(t, "Placed", list(i, l, e), list(i, x.points, api.OK))
	}
}

// TestClusters checks example 7, and chains of echoes.
func TestClusters(t *testing.T) {
	for i, x := range []struct {
		probes   []int
		l        []profile.Echo
		reach    int
		clusters [][]int
	}{
		{shownProbes(), shownEchoes(), 1, [][]int{{0, 1, 2}, {3}}}, {shownProbes(), shownEchoes(), 0, [][]int{{0, 1}, {2}, {3}}},
		{shownProbes(), shownEchoes(), 99, [][]int{{0, 1, 2, 3}}}, {shownProbes(), shownEchoes(), 98, [][]int{{0, 1, 2}, {3}}},
		{ints(0), nil, 5, nil}, {ints(0), echoes(0, 3, 3), 0, [][]int{{0}}},
		{ints(0), echoes(0, 0, 1, 0, 10, 1, 0, 5, 1), 5, [][]int{{0, 1, 2}}}, // the last one joins the others
		{ints(0), echoes(0, 0, 1, 0, 10, 1, 0, 5, 1), 4, [][]int{{0}, {1}, {2}}},
		{ints(0), echoes(0, 0, 1, 0, 0, 11, 0, 0, 6), 5, [][]int{{0, 1, 2}}},
		{ints(0), echoes(0, 0, 1, 0, 0, 11, 0, 0, 6), 4, [][]int{{0}, {1}, {2}}},
		{ints(0), echoes(0, 50, 1, 0, 10, 1, 0, 53, 1, 0, 13, 1, 0, 30, 1), 3, [][]int{{0, 2}, {1, 3}, {4}}},
		{ints(0), echoes(0, 5, 5, 0, 8, 9, 0, 8, 8), 3, [][]int{{0, 1, 2}}}, // the second one over the third one
		{ints(0), echoes(0, 5, 5, 0, 8, 9), 3, [][]int{{0}, {1}}},           // near in X alone
		{ints(0), echoes(0, 5, 5, 0, 9, 8), 3, [][]int{{0}, {1}}},           // near in Y alone
		{ints(0), echoes(0, 5, 5, 0, 8, 8), 3, [][]int{{0, 1}}},             // near in both, by the reach
		{ints(0), echoes(0, 5, 5, 0, 8, 2), 3, [][]int{{0, 1}}},
		{ints(0), echoes(0, 5, 5, 0, 2, 8), 3, [][]int{{0, 1}}},
		{ints(0), echoes(0, 5, 5, 0, 2, 2), 3, [][]int{{0, 1}}},
		{ints(0), echoes(0, 5, 5, 0, 1, 5), 3, [][]int{{0}, {1}}},
		{ints(0), echoes(0, 5, 5, 0, 5, 1), 3, [][]int{{0}, {1}}},
		{ints(1, -1), echoes(0, 90, 10, 1, 110, 10), 0, [][]int{{0, 1}}}, // by their points, not by their places
		{ints(1, -1), echoes(0, 100, 10, 1, 100, 10), 19, [][]int{{0}, {1}}},
	} {
		clusters, e := profile.Clusters(x.probes, x.l, x.reach)
		want(t, "Clusters", list(i, clusters, e), list(i, x.clusters, api.OK))
	}
}

// someEchoes returns probes and at most so many of their echoes, many of which are near.
func someEchoes(g *rand.Rand, n int) ([]int, []profile.Echo) {
	probes := make([]int, between(g, 1, 5))
	for i := range probes {
		probes[i] = between(g, -3, 3)
	}
	l := make([]profile.Echo, g.IntN(n+1))
	for i := range l {
		l[i] = profile.Echo{Probe: g.IntN(len(probes)), Place: g.IntN(40), Delay: between(g, 1, 12)}
	}
	return probes, l
}

// pointOf returns the point of an echo.
func pointOf(probes []int, x profile.Echo) profile.Point {
	return point(x.Place+probes[x.Probe]*x.Delay, x.Delay)
}

// clustersOf returns the clusters by their definition: which echo is reached from which one, over ever more others.
func clustersOf(probes []int, l []profile.Echo, reach int) [][]int {
	reached := make([][]bool, len(l))
	for i := range l {
		reached[i] = make([]bool, len(l))
		for k := range l {
			a, b := pointOf(probes, l[i]), pointOf(probes, l[k])
			reached[i][k] = distance(a.X, b.X) <= reach && distance(a.Y, b.Y) <= reach
		}
	}
	for over := range l {
		for i := range l {
			for k := range l {
				reached[i][k] = reached[i][k] || reached[i][over] && reached[over][k]
			}
		}
	}
	var out [][]int
	for i := range l {
		var cluster []int
		for k := range l {
			if reached[i][k] {
				cluster = append(cluster, k)
			}
		}
		if cluster[0] == i {
			out = append(out, cluster)
		}
	}
	return out
}

// TestEchoesByDefinition checks points, clusters, classes and doubts of many echoes.
func TestEchoesByDefinition(t *testing.T) {
	g := source(30)
	many, doubtless := 0, 0
	for range 1500 {
		probes, l := someEchoes(g, 1<<g.IntN(7))
		reach, rules := g.IntN(7), someRules(g)
		var points []profile.Point
		for _, x := range l {
			points = append(points, pointOf(probes, x))
		}
		p, e := profile.Placed(probes, l)
		want(t, "Placed", list(probes, l, p, e), list(probes, l, points, api.OK))

		wanted := clustersOf(probes, l, reach)
		clusters, e := profile.Clusters(probes, l, reach)
		want(t, "Clusters", list(probes, l, reach, clusters, e), list(probes, l, reach, wanted, api.OK))

		classes := make([][]string, len(wanted))
		var doubts []int
		for i, cluster := range wanted {
			classes[i] = classesOf(probes, l, cluster, rules)
			if len(classes[i]) != 1 {
				doubts = append(doubts, i)
			}
		}
		possible, e := profile.Possible(probes, l, reach, rules)
		want(t, "Possible", list(probes, l, reach, rules, possible, e), list(probes, l, reach, rules, classes, api.OK))
		doubtful, e := profile.Doubtful(probes, l, reach, rules)
		want(t, "Doubtful", list(probes, l, reach, rules, doubtful, e), list(probes, l, reach, rules, doubts, api.OK))
		if len(wanted) > 1 && len(wanted) < len(l) {
			many++
		}
		doubtless += len(wanted) - len(doubts)
	}
	if many < 500 || doubtless < 500 {
		t.Errorf("too few echoes have several clusters, or one class: %v, %v", many, doubtless)
	}
}

// someRules returns rules with narrow and wide intervals.
func someRules(g *rand.Rand) []profile.Rule {
	some := func(most int) (int, int) {
		if g.IntN(2) == 0 {
			return 0, 100000
		}
		low := g.IntN(most)
		return low, low + g.IntN(most)
	}
	l := manyRules(g.IntN(9))
	for i := range l {
		for _, x := range []*api.Interval{&l[i].Probes, &l[i].Width, &l[i].Height, &l[i].Depth} {
			x.Low, x.High = some(6)
		}
		if g.IntN(2) == 0 {
			l[i].Depth.Low, l[i].Depth.High = some(12)
		}
	}
	return l
}

// classesOf returns the possible classes of a cluster by their definition.
func classesOf(probes []int, l []profile.Echo, cluster []int, rules []profile.Rule) []string {
	var kinds, xs, ys []int
	for _, i := range cluster {
		p := pointOf(probes, l[i])
		xs, ys = append(xs, p.X), append(ys, p.Y)
		if !slices.Contains(kinds, l[i].Probe) {
			kinds = append(kinds, l[i].Probe)
		}
	}
	is := func(n int, x api.Interval) bool { return n >= x.Low && n <= x.High }
	var classes []string
	for _, r := range rules {
		isOne := is(len(kinds), r.Probes) && is(slices.Max(xs)-slices.Min(xs), r.Width) && is(slices.Max(ys)-slices.Min(ys), r.Height)
		for _, y := range ys {
			isOne = isOne && is(y, r.Depth)
		}
		if isOne {
			classes = append(classes, r.Class)
		}
	}
	return classes
}

// TestPossible checks example 7, and the ends of each interval.
func TestPossible(t *testing.T) {
	possible, e := profile.Possible(shownProbes(), shownEchoes(), 1, shownRules())
	want(t, "Possible", list(possible, e), list([][]string{{"crack", "hole"}, {"hole"}}, api.OK))
	doubtful, e := profile.Doubtful(shownProbes(), shownEchoes(), 1, shownRules())
	want(t, "Doubtful", list(doubtful, e), list(ints(0), api.OK))
	possible, e = profile.Possible(shownProbes(), shownEchoes(), 1, nil)
	want(t, "Possible without rules", list(possible, e), list([][]string{nil, nil}, api.OK))
	doubtful, e = profile.Doubtful(shownProbes(), shownEchoes(), 1, nil)
	want(t, "Doubtful without rules", list(doubtful, e), list(ints(0, 1), api.OK))
	possible, e = profile.Possible(shownProbes(), nil, 1, shownRules())
	want(t, "Possible without echoes", list(possible, e), list([][]string(nil), api.OK))
	doubtful, e = profile.Doubtful(shownProbes(), nil, 1, nil)
	want(t, "Doubtful without echoes", list(doubtful, e), list(ints(), api.OK))
	swapped := shownRules()
	slices.Reverse(swapped)
	possible, e = profile.Possible(shownProbes(), shownEchoes(), 1, swapped)
	want(t, "Possible in the order of the rules", list(possible, e), list([][]string{{"hole", "crack"}, {"hole"}}, api.OK))

	// Three probes of which two have one slope, the width 9, the height 4, and the depths 3 to 7.
	probes, l := ints(0, 2, 0), echoes(0, 100, 3, 1, 95, 7, 2, 103, 5, 0, 104, 4)
	clusters, e := profile.Clusters(probes, l, 5)
	want(t, "Clusters", list(clusters, e), list([][]int{{0, 1, 2, 3}}, api.OK))
	for i, x := range []struct {
		ends []int
		is   bool
	}{
		{ints(3, 3, 9, 9, 4, 4, 3, 7), true}, {ints(0, 100000, 0, 100000, 0, 100000, 0, 100000), true},
		{ints(4, 5, 9, 9, 4, 4, 3, 7), false}, {ints(0, 2, 9, 9, 4, 4, 3, 7), false},
		{ints(3, 3, 10, 11, 4, 4, 3, 7), false}, {ints(3, 3, 0, 8, 4, 4, 3, 7), false},
		{ints(3, 3, 9, 9, 5, 9, 3, 7), false}, {ints(3, 3, 9, 9, 0, 3, 3, 7), false},
		{ints(3, 3, 9, 9, 4, 4, 4, 7), false}, {ints(3, 3, 9, 9, 4, 4, 3, 6), false}, {ints(3, 3, 9, 9, 4, 4, 4, 6), false}, {ints(3, 3, 9, 9, 4, 4, 0, 100000), true},
	} {
		wanted, doubts := [][]string{{"it"}}, ints()
		if !x.is {
			wanted, doubts = [][]string{nil}, ints(0)
		}
		rules := []profile.Rule{rule("it", x.ends...)}
		possible, e := profile.Possible(probes, l, 5, rules)
		want(t, "Possible at the ends", list(i, possible, e), list(i, wanted, api.OK))
		doubtful, e := profile.Doubtful(probes, l, 5, rules)
		want(t, "Doubtful at the ends", list(i, doubtful, e), list(i, doubts, api.OK))
	}
}
