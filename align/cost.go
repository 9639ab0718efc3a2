package align

import (
	"iter"
	"slices"

	"versine/api"
	"versine/base"
)

// problem is a ride that is to be aligned, with what an alignment costs.
type problem struct {
	Ride
	Costs
	marksOf map[string][]int // the indices of the marks of a kind, ascending
}

func problemOf(r Ride, c Costs) problem {
	marksOf := map[string][]int{}
	for i, m := range r.Marks {
		marksOf[m.Kind] = append(marksOf[m.Kind], i)
	}
	return problem{r, c, marksOf}
}

// end returns what stands behind all pairs. An alignment comes to it as to a further
// pair, for which no mark is unseen, and no distance differs.
func (x problem) end() Pair { return Pair{len(x.Sights), len(x.Marks)} }

// step is a pair with the cost of a beginning that ends with it.
type step struct {
	Pair
	cost int
}

// before visits the pairs that may come before a pair or the end, ascending, each
// with its number in a table.
func (x problem) before(p Pair, table [][]int) iter.Seq[step] {
	return func(yield func(step) bool) {
		for sight := range p.Sight {
			for _, mark := range x.marksOf[x.Sights[sight].Kind] {
				if mark >= p.Mark {
					break
				}
				if !yield(step{Pair{sight, mark}, table[sight][mark]}) {
					return
				}
			}
		}
	}
}

// firstCost returns the cost of the beginning that has this pair alone, or, of the
// end, of the alignment without pairs.
func (x problem) firstCost(p Pair) int { return x.Missed * p.Sight }

// growth returns what the cost grows between a pair and the next one, or the end.
func (x problem) growth(from, to Pair) int {
	missed := x.Missed * (to.Sight - from.Sight - 1)
	if to == x.end() {
		return missed
	}
	unseen := x.Unseen * (to.Mark - from.Mark - 1)
	return missed + unseen + x.Stretch*two{x.fix(from), x.fix(to)}.stretch()
}

// leastTo returns the least cost with which a beginning comes to a pair or to the
// end, by the numbers of a table for the pairs before.
func (x problem) leastTo(p Pair, table [][]int) int {
	least := x.firstCost(p)
	for q := range x.before(p, table) {
		least = min(least, q.cost+x.growth(q.Pair, p))
	}
	return least
}

// Cost returns the cost of an alignment.
func Cost(r Ride, c Costs, l []Pair) (int, api.Errno) {
	if e := base.FirstError(checkProblem(r, c), CheckPairs(r, l)); e != api.OK {
		return 0, e
	}
	x := problemOf(r, c)
	path := append(slices.Clone(l), x.end())
	cost := x.firstCost(path[0])
	for i, p := range path[1:] {
		cost += x.growth(path[i], p)
	}
	return cost, api.OK
}
