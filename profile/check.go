package profile

import (
	"versine/api"
	"versine/base"
)

// CheckProfile returns the first error of a profile, or OK.
func CheckProfile(p Profile) api.Errno {
	e := base.FirstError(
		base.ErrorIf(len(p) < 2, api.ErrShort),
		base.ErrorIf(len(p) > MaxPoints, api.ErrMany),
	)
	if e != api.OK {
		return e
	}
	for i, x := range p {
		e := base.FirstError(
			checkSide(x.X),
			checkSide(x.Y),
			base.ErrorIf(i > 0 && x.X <= p[i-1].X, api.ErrOrder),
		)
		if e != api.OK {
			return e
		}
	}
	return api.OK
}

func checkSide(n int) api.Errno { return base.CheckBetween(n, -MaxSide, MaxSide) }

// checkColumn returns ErrSpan for a column that not all of these profiles have, which
// may have errors.
func checkColumn(column int, profiles ...Profile) api.Errno {
	return base.CheckEach(profiles, func(p Profile) api.Errno {
		return base.ErrorIf(!p.has(column), api.ErrSpan)
	})
}

// checkColumns returns the first error of columns that all of these profiles must
// have, or OK.
func checkColumns(columns []int, profiles ...Profile) api.Errno {
	e := base.FirstError(
		base.ErrorIf(len(columns) == 0, api.ErrEmpty),
		base.ErrorIf(len(columns) > MaxColumns, api.ErrMany),
	)
	if e != api.OK {
		return e
	}
	for i, column := range columns {
		e := base.FirstError(
			checkColumn(column, profiles...),
			base.ErrorIf(i > 0 && column <= columns[i-1], api.ErrOrder),
		)
		if e != api.OK {
			return e
		}
	}
	return api.OK
}

func checkShift(n int) api.Errno { return base.CheckBetween(n, -MaxMove, MaxMove) }

// checkMove returns ErrRange if one of both numbers of a move is not in its range.
func checkMove(by [2]int) api.Errno { return base.CheckEach(by[:], checkShift) }
