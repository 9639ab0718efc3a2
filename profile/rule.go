package profile

import (
	"slices"

	"versine/api"
	"versine/base"
	"versine/sample"
)

// extent is what a cluster has of all that rules ask for.
type extent struct {
	probes int
	x      api.Interval
	y      api.Interval
}

// demand is something that each rule asks for: by which interval, and in which one the
// numbers of a cluster are.
type demand struct {
	asked func(r Rule) api.Interval
	given func(x extent) api.Interval
}

// demands returns all that each rule asks for.
func demands() [4]demand {
	return [4]demand{
		{func(r Rule) api.Interval { return r.Probes }, func(x extent) api.Interval { return single(x.probes) }},
		{func(r Rule) api.Interval { return r.Width }, func(x extent) api.Interval { return single(length(x.x)) }},
		{func(r Rule) api.Interval { return r.Height }, func(x extent) api.Interval { return single(length(x.y)) }},
		{func(r Rule) api.Interval { return r.Depth }, func(x extent) api.Interval { return x.y }},
	}
}

// single returns the interval that has one number.
func single(n int) api.Interval { return api.Interval{Low: n, High: n} }

// length returns the difference of the ends.
func length(x api.Interval) int { return x.High - x.Low }

// isIn reports whether an interval has no number that another one does not have.
func isIn(x, other api.Interval) bool { return other.Low <= x.Low && x.High <= other.High }

// checkInterval returns the first error of an interval of a rule, or OK.
func checkInterval(x api.Interval) api.Errno { return base.CheckInterval(x, 0, MaxExtent) }

// CheckRules returns the first error of rules, or OK.
func CheckRules(rules []Rule) api.Errno {
	if len(rules) > MaxRules {
		return api.ErrMany
	}
	all := demands()
	classes := base.Names{}
	return base.CheckEach(rules, func(r Rule) api.Errno {
		return base.FirstError(
			base.ErrorIf(!sample.IsName(r.Class), api.ErrName),
			classes.CheckNext(r.Class),
			base.CheckEach(all[:], func(d demand) api.Errno { return checkInterval(d.asked(r)) }),
		)
	})
}

// isPossible reports whether the class of a rule is possible for a cluster.
func (r Rule) isPossible(x extent) bool {
	for _, d := range demands() {
		if !isIn(d.given(x), d.asked(r)) {
			return false
		}
	}
	return true
}

// rangeOf returns the interval from the least to the greatest of some numbers.
func rangeOf(l []int) api.Interval { return api.Interval{Low: slices.Min(l), High: slices.Max(l)} }

// extentOf returns what a cluster has.
func extentOf(l []Echo, spots []spot, cluster []int) extent {
	probes := map[int]bool{}
	for _, i := range cluster {
		probes[l[i].Probe] = true
	}
	return extent{
		probes: len(probes),
		x:      rangeOf(base.Mapped(cluster, func(i int) int { return spots[i][0] })),
		y:      rangeOf(base.Mapped(cluster, func(i int) int { return spots[i][1] })),
	}
}

// possible returns the classes that are possible for each cluster.
func possible(probes []int, l []Echo, reach int, rules []Rule) [][]string {
	spots := spotsOf(probes, l)
	return base.Mapped(clusters(spots, reach), func(cluster []int) []string {
		x := extentOf(l, spots, cluster)
		var classes []string
		for _, r := range rules {
			if r.isPossible(x) {
				classes = append(classes, r.Class)
			}
		}
		return classes
	})
}

// Possible returns the possible classes of each cluster.
func Possible(probes []int, l []Echo, reach int, rules []Rule) ([][]string, api.Errno) {
	if e := base.FirstError(checkReach(probes, l, reach), CheckRules(rules)); e != api.OK {
		return nil, e
	}
	return possible(probes, l, reach, rules), api.OK
}

// Doubtful returns the indices of the clusters that are doubtful.
func Doubtful(probes []int, l []Echo, reach int, rules []Rule) ([]int, api.Errno) {
	if e := base.FirstError(checkReach(probes, l, reach), CheckRules(rules)); e != api.OK {
		return nil, e
	}
	var doubtful []int
	for i, classes := range possible(probes, l, reach, rules) {
		if len(classes) != 1 {
			doubtful = append(doubtful, i)
		}
	}
	return doubtful, api.OK
}
