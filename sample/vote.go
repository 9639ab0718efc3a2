package sample

import (
	"slices"

	"versine/api"
	"versine/base"
)

// Voted returns the vote of three runs, and at how many indices each one is wrong.
func Voted(l [3]Run, limit float32) (Run, [3]int, api.Errno) {
	e := base.FirstError(
		CheckRun(l[0]), CheckRun(l[1]), CheckRun(l[2]),
		base.ErrorIf(!haveOneShape(l[0], l[1]) || !haveOneShape(l[0], l[2]), api.ErrShape),
		CheckSample(limit),
		base.ErrorIf(limit < 0, api.ErrRange),
	)
	if e != api.OK {
		return Run{}, [3]int{}, e
	}
	most := base.IntegerOf(limit)
	rows := [3][]cell{cellsOf(l[0]), cellsOf(l[1]), cellsOf(l[2])}
	votes := make([]cell, len(rows[0]))
	var wrong [3]int
	for i := range votes {
		votes[i] = vote(most, rows[0][i], rows[1][i], rows[2][i])
		for k := range rows {
			if isWrong(rows[k][i], votes[i], most) {
				wrong[k]++
			}
		}
	}
	return runOf(l[0].Name, l[0].First, votes), wrong, api.OK
}

// vote returns what three cells agree on, in any order of them.
func vote(most int, l ...cell) cell {
	known := knownOf(l)
	slices.Sort(known)
	switch {
	case len(known) == 3 && min(known[1]-known[0], known[2]-known[1]) <= most:
		return cell{known[1], true}
	case len(known) == 2 && known[1]-known[0] <= most:
		return cell{base.Rounded(known[0]+known[1], 2), true}
	}
	return cell{}
}

func isWrong(c, v cell, most int) bool {
	return c.known && v.known && max(c.integer-v.integer, v.integer-c.integer) > most
}
