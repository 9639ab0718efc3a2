package align

import (
	"cmp"
	"slices"

	"versine/api"
)

// compare compares pairs by the sight, then by the mark.
func (p Pair) compare(other Pair) int {
	return cmp.Or(cmp.Compare(p.Sight, other.Sight), cmp.Compare(p.Mark, other.Mark))
}

// chosen returns what is chosen of all alignments of the least cost. Each beginning of
// such an alignment has the least cost of those that end with its last pair; so what
// is chosen for a pair follows from what was chosen for the pairs before it.
func (x problem) chosen(table [][]int, choose func(lists [][]Pair) []Pair) []Pair {
	lists := map[Pair][]Pair{}
	for p := range x.before(x.end(), table) {
		lists[p.Pair] = append(slices.Clone(choose(x.leastLists(p, table, lists))), p.Pair)
	}
	end := step{x.end(), x.leastTo(x.end(), table)}
	return slices.Clone(choose(x.leastLists(end, table, lists)))
}

// leastLists returns the lists of the pairs from which a beginning comes to a pair or
// to the end at its least cost, with an empty one if it does so without them.
func (x problem) leastLists(p step, table [][]int, lists map[Pair][]Pair) [][]Pair {
	var out [][]Pair
	if x.firstCost(p.Pair) == p.cost {
		out = append(out, nil)
	}
	for q := range x.before(p.Pair, table) {
		if q.cost+x.growth(q.Pair, p.Pair) == p.cost {
			out = append(out, lists[q.Pair])
		}
	}
	return out
}

// leastOf returns the least of at least one alignments with one cost.
func leastOf(lists [][]Pair) []Pair {
	return slices.MinFunc(lists, func(a, b []Pair) int {
		if len(a) != len(b) {
			return cmp.Compare(len(b), len(a))
		}
		return slices.CompareFunc(a, b, Pair.compare)
	})
}

// sharedOf returns the pairs that all of at least one lists of sure pairs have. Before
// a pair all lists have the same ones: those that are sure for the beginnings which
// end with it. So the pairs that lists share stand at the beginning of each.
func sharedOf(lists [][]Pair) []Pair {
	shared := lists[0]
	for _, l := range lists[1:] {
		n := 0
		for n < min(len(shared), len(l)) && shared[n] == l[n] {
			n++
		}
		shared = shared[:n]
	}
	return shared
}

// Aligned returns the least alignment, and its cost.
func Aligned(r Ride, c Costs) ([]Pair, int, api.Errno) {
	if e := checkProblem(r, c); e != api.OK {
		return nil, 0, e
	}
	x := problemOf(r, c)
	table := x.table()
	return x.chosen(table, leastOf), x.leastTo(x.end(), table), api.OK
}

// Sure returns the pairs that all alignments of the least cost have.
func Sure(r Ride, c Costs) ([]Pair, api.Errno) {
	if e := checkProblem(r, c); e != api.OK {
		return nil, e
	}
	x := problemOf(r, c)
	return x.chosen(x.table(), sharedOf), api.OK
}
