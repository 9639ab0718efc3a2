package profile

import (
	"versine/api"
	"versine/base"
)

// CheckProbes returns the first error of probes, or OK.
func CheckProbes(probes []int) api.Errno {
	e := base.FirstError(
		base.ErrorIf(len(probes) == 0, api.ErrEmpty),
		base.ErrorIf(len(probes) > MaxProbes, api.ErrMany),
	)
	if e != api.OK {
		return e
	}
	return base.CheckEach(probes, func(slope int) api.Errno {
		return base.CheckBetween(slope, -MaxSlope, MaxSlope)
	})
}

// checkEchoes returns the first error of probes, then of their echoes, or OK.
func checkEchoes(probes []int, l []Echo) api.Errno {
	if e := base.FirstError(CheckProbes(probes), base.ErrorIf(len(l) > MaxEchoes, api.ErrMany)); e != api.OK {
		return e
	}
	return base.CheckEach(l, func(x Echo) api.Errno {
		return base.FirstError(
			base.ErrorIf(x.Probe < 0 || x.Probe >= len(probes), api.ErrUnknown),
			base.CheckBetween(x.Place, 0, api.MaxPlace),
			base.CheckBetween(x.Delay, 1, MaxDelay),
		)
	})
}

// checkReach returns the first error of probes, their echoes and a reach, or OK.
func checkReach(probes []int, l []Echo, reach int) api.Errno {
	return base.FirstError(checkEchoes(probes, l), base.CheckBetween(reach, 0, MaxReach))
}

// spot is both numbers of the point at which an echo is placed: X, and Y.
type spot [2]int

// spotsOf returns the spots of echoes.
func spotsOf(probes []int, l []Echo) []spot {
	return base.Mapped(l, func(x Echo) spot {
		return spot{x.Place + probes[x.Probe]*x.Delay, x.Delay}
	})
}

// Placed returns the points of echoes.
func Placed(probes []int, l []Echo) ([]Point, api.Errno) {
	if e := checkEchoes(probes, l); e != api.OK {
		return nil, e
	}
	return base.Mapped(spotsOf(probes, l), func(s spot) Point { return Point{s[0], s[1]} }), api.OK
}

// within returns the spot that is next to this one, of those whose numbers differ from
// the numbers of another one by at most the reach.
func (s spot) within(reach int, other spot) spot {
	for i, n := range other {
		s[i] = min(max(s[i], n-reach), n+reach)
	}
	return s
}

// isNear reports whether the echoes at two spots are near.
func (s spot) isNear(reach int, other spot) bool { return s.within(reach, other) == s }

// finder finds the clusters of echoes.
type finder struct {
	spots     []spot
	reach     int
	clusterOf map[int]int // the clusters, numbered from 0 on, of the echoes that have been found
}

// next returns an echo that has not been found, but is near to one of these, and
// whether there is one.
func (f finder) next(echoes []int) (int, bool) {
	found, isAny := 0, false
search:
	for i, x := range f.spots {
		if _, isFound := f.clusterOf[i]; isFound {
			continue
		}
		for _, k := range echoes {
			if x.isNear(f.reach, f.spots[k]) {
				found, isAny = i, true
				break search
			}
		}
	}
	return found, isAny
}

// find finds a cluster from its first echo on.
func (f finder) find(cluster, first int) {
	var echoes []int
	for i, isAny := first, true; isAny; i, isAny = f.next(echoes) {
		f.clusterOf[i] = cluster
		echoes = append(echoes, i)
	}
}

// clusters returns the indices of the spots of each cluster.
func clusters(spots []spot, reach int) [][]int {
	f := finder{spots, reach, map[int]int{}}
	var out [][]int
	for i := range spots {
		if _, isFound := f.clusterOf[i]; !isFound {
			f.find(len(out), i)
			out = append(out, nil)
		}
		cluster := f.clusterOf[i]
		out[cluster] = append(out[cluster], i)
	}
	return out
}

// Clusters returns the indices of the echoes of each cluster.
func Clusters(probes []int, l []Echo, reach int) ([][]int, api.Errno) {
	if e := checkReach(probes, l, reach); e != api.OK {
		return nil, e
	}
	return clusters(spotsOf(probes, l), reach), api.OK
}
