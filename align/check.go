package align

import (
	"versine/api"
	"versine/base"
	"versine/sample"
)

// parts returns the kind of a mark, and the number that ascends in a list of marks.
func (m Mark) parts() (string, int) { return m.Kind, m.Place }

// parts returns the kind of a sight, and the number that ascends in a list of sights.
func (s Sight) parts() (string, int) { return s.Kind, s.Count }

// CheckRide returns the first error of a ride, or OK.
func CheckRide(r Ride) api.Errno {
	return base.FirstError(
		checkAscending(r.Marks, MaxMarks, Mark.parts),
		checkAscending(r.Sights, MaxSights, Sight.parts),
	)
}

// checkAscending returns the first error of at most so many marks or sights, or OK.
func checkAscending[T any](l []T, most int, parts func(x T) (string, int)) api.Errno {
	if len(l) > most {
		return api.ErrMany
	}
	last := -1
	for _, x := range l {
		kind, number := parts(x)
		e := base.FirstError(
			base.ErrorIf(!sample.IsName(kind), api.ErrKind),
			base.CheckBetween(number, 0, api.MaxPlace),
			base.ErrorIf(number <= last, api.ErrOrder),
		)
		if e != api.OK {
			return e
		}
		last = number
	}
	return api.OK
}

// CheckCosts returns the first error of costs, or OK.
func CheckCosts(c Costs) api.Errno {
	return base.FirstError(
		base.CheckBetween(c.Missed, 0, MaxCost),
		base.CheckBetween(c.Unseen, 0, MaxCost),
		base.CheckBetween(c.Stretch, 0, MaxCost),
	)
}

// checkProblem returns the first error of a ride and of costs, or OK.
func checkProblem(r Ride, c Costs) api.Errno { return base.FirstError(CheckRide(r), CheckCosts(c)) }

// CheckPairs returns OK for an alignment of a ride.
func CheckPairs(r Ride, l []Pair) api.Errno {
	if e := base.FirstError(CheckRide(r), base.ErrorIf(len(l) > MaxSights, api.ErrMany)); e != api.OK {
		return e
	}
	last := Pair{-1, -1}
	for _, p := range l {
		if e := r.checkPair(last, p); e != api.OK {
			return e
		}
		last = p
	}
	return api.OK
}

// checkPair returns the first error of a pair behind another one, or OK.
func (r Ride) checkPair(last, p Pair) api.Errno {
	if !has(r.Sights, p.Sight) || !has(r.Marks, p.Mark) {
		return api.ErrUnknown
	}
	return base.FirstError(
		base.ErrorIf(!r.isOfOneKind(p), api.ErrConflict),
		base.ErrorIf(p.Sight <= last.Sight || p.Mark <= last.Mark, api.ErrOrder),
	)
}

// has reports whether a list has an element with an index.
func has[T any](l []T, index int) bool { return 0 <= index && index < len(l) }

// isOfOneKind reports whether a sight and a mark that are there have one kind.
func (r Ride) isOfOneKind(p Pair) bool { return r.Sights[p.Sight].Kind == r.Marks[p.Mark].Kind }

func checkSlip(s Slip) api.Errno {
	return base.FirstError(base.CheckBetween(s.Rate, 0, MaxRate), base.CheckBetween(s.Blur, 0, MaxBlur))
}

func checkPlace(n int) api.Errno { return base.CheckBetween(n, 0, api.MaxPlace) }
