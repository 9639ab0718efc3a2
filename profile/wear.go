package profile

import (
	"cmp"
	"slices"

	"versine/api"
	"versine/base"
)

// checkWear returns the first error of two profiles, and of columns that both must
// have, or OK.
func checkWear(nominal, p Profile, columns []int) api.Errno {
	return base.FirstError(CheckProfile(nominal), CheckProfile(p), checkColumns(columns, nominal, p))
}

// wear returns the wear of a profile at columns.
func wear(nominal, p Profile, columns []int) []int {
	return base.Mapped(columns, func(column int) int { return nominal.height(column) - p.height(column) })
}

// Wear returns the wear of a profile at columns.
func Wear(nominal, p Profile, columns []int) ([]int, api.Errno) {
	if e := checkWear(nominal, p, columns); e != api.OK {
		return nil, e
	}
	return wear(nominal, p, columns), api.OK
}

// Worst returns the worst wear, and its column.
func Worst(nominal, p Profile, columns []int) (int, int, api.Errno) {
	if e := checkWear(nominal, p, columns); e != api.OK {
		return 0, 0, e
	}
	l := wear(nominal, p, columns)
	worst := slices.Max(l)
	return worst, columns[slices.Index(l, worst)], api.OK
}

// cost returns the cost of a move, and whether the moved profile is one and has all
// columns.
func cost(nominal, p Profile, columns []int, by [2]int) (int, bool) {
	moved := p.moved(by)
	if base.FirstError(CheckProfile(moved), checkColumns(columns, moved)) != api.OK {
		return 0, false
	}
	sum := 0
	for _, n := range wear(nominal, moved, columns) {
		sum += n * n
	}
	return sum, true
}

// Cost returns the cost of a move.
func Cost(nominal, p Profile, columns []int, by [2]int) (int, api.Errno) {
	e := base.FirstError(CheckProfile(nominal), CheckProfile(p), checkColumns(columns, nominal), checkMove(by))
	if e != api.OK {
		return 0, e
	}
	n, isOne := cost(nominal, p, columns, by)
	return n, base.ErrorIf(!isOne, api.ErrRule)
}

// move is by how much a profile is moved.
type move struct {
	x int
	y int
}

// trial is a permitted move with its cost.
type trial struct {
	move
	cost int
}

// size returns the sum of the absolute values of both numbers.
func (m move) size() int { return max(m.x, -m.x) + max(m.y, -m.y) }

// compare puts the fit before all other moves.
func (t trial) compare(other trial) int {
	return cmp.Or(
		cmp.Compare(t.cost, other.cost),
		cmp.Compare(t.size(), other.size()),
		cmp.Compare(t.x, other.x),
		cmp.Compare(t.y, other.y),
	)
}

// trials returns all permitted moves with their costs.
func trials(nominal, p Profile, columns []int, most int) []trial {
	var l []trial
	for i := range 2*most + 1 {
		for k := range 2*most + 1 {
			by := move{i - most, k - most}
			if n, isPermitted := cost(nominal, p, columns, [2]int{by.x, by.y}); isPermitted {
				l = append(l, trial{by, n})
			}
		}
	}
	return l
}

// Fit returns the fit of a profile to a nominal one, and its cost.
func Fit(nominal, p Profile, columns []int, most int) ([2]int, int, api.Errno) {
	e := base.FirstError(
		CheckProfile(nominal), CheckProfile(p),
		checkColumns(columns, nominal), base.CheckBetween(most, 0, MaxMost),
	)
	if e != api.OK {
		return [2]int{}, 0, e
	}
	l := trials(nominal, p, columns, most)
	if len(l) == 0 {
		return [2]int{}, 0, api.ErrInfeasible
	}
	slices.SortFunc(l, trial.compare)
	fit := l[0]
	return [2]int{fit.x, fit.y}, fit.cost, api.OK
}
