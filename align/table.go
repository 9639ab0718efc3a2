package align

import (
	"slices"

	"versine/api"
	"versine/base"
)

// noPair is the number in a table of a sight and a mark whose kinds differ.
const noPair = -1

// table returns the table of the ride.
func (x problem) table() [][]int {
	table := base.Mapped(x.Sights, func(Sight) []int { return slices.Repeat([]int{noPair}, len(x.Marks)) })
	for p := range x.before(x.end(), table) { // and before a pair come only pairs that were visited
		table[p.Sight][p.Mark] = x.leastTo(p.Pair, table)
	}
	return table
}

// Table returns the table of least beginnings.
func Table(r Ride, c Costs) ([][]int, api.Errno) {
	if e := checkProblem(r, c); e != api.OK {
		return nil, e
	}
	return problemOf(r, c).table(), api.OK
}

// CheckTable returns the bound that a table proves.
func CheckTable(r Ride, c Costs, table [][]int) (int, api.Errno) {
	if e := base.FirstError(checkProblem(r, c), checkNumbers(r, table)); e != api.OK {
		return 0, e
	}
	x := problemOf(r, c)
	if !x.isProof(table) {
		return 0, api.ErrProof
	}
	return x.leastTo(x.end(), table), api.OK
}

// checkNumbers returns the first error of a table, or OK.
func checkNumbers(r Ride, table [][]int) api.Errno {
	return base.FirstError(
		base.ErrorIf(len(table) != len(r.Sights), api.ErrShape),
		base.CheckEach(table, func(row []int) api.Errno {
			return base.ErrorIf(len(row) != len(r.Marks), api.ErrShape)
		}),
		base.CheckEach(slices.Concat(table...), func(number int) api.Errno {
			return base.CheckBetween(number, noPair, api.MaxNumber)
		}),
	)
}

// isProof reports whether a table without an error proves a bound.
func (x problem) isProof(table [][]int) bool {
	for sight, row := range table {
		for mark, number := range row {
			if (number == noPair) == x.isOfOneKind(Pair{sight, mark}) {
				return false
			}
		}
	}
	for p := range x.before(x.end(), table) {
		if p.cost > x.leastTo(p.Pair, table) {
			return false
		}
	}
	return true
}
