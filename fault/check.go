package fault

import (
	"versine/api"
	"versine/base"
	"versine/sample"
)

func checkBand(n int) api.Errno { return base.CheckBetween(n, 0, MaxBand) }

// checkSpeed returns ErrRange for a speed that no train has, as 0.
func checkSpeed(n int) api.Errno { return base.CheckBetween(n, 1, MaxSpeed) }

// checkSize returns ErrRange for a number that is no absolute value.
func checkSize(n int) api.Errno { return base.CheckBetween(n, 0, MaxValue) }

func checkValue(n int) api.Errno { return base.CheckBetween(n, -MaxValue, MaxValue) }

func checkPlace(n int) api.Errno { return base.CheckBetween(n, 0, api.MaxPlace) }

func checkNumber(n int) api.Errno { return base.CheckBetween(n, 1, MaxMessages) }

func checkName(name string) api.Errno { return base.ErrorIf(!sample.IsName(name), api.ErrName) }

// ends is both ends of a span.
type ends [2]int

func endsOf(s api.Span) ends { return ends{s.From, s.To} }

// checkSpan returns ErrSpan for a span that is empty, or not within all places.
func checkSpan(s api.Span) api.Errno {
	both := endsOf(s)
	isOutside := base.CheckEach(both[:], checkPlace) != api.OK
	return base.ErrorIf(isOutside || s.From >= s.To, api.ErrSpan)
}

// checkRestriction returns the first error of a restriction, or OK.
func checkRestriction(r Restriction) api.Errno {
	return base.FirstError(checkName(r.Name), checkSpan(r.Span), base.CheckBetween(r.Speed, 0, MaxSpeed))
}

// checkWithdrawn returns the first error of what a message that withdraws says, or OK.
func checkWithdrawn(r Restriction) api.Errno {
	isMore := endsOf(r.Span) != ends{} || r.Speed != 0
	return base.FirstError(checkName(r.Name), base.ErrorIf(isMore, api.ErrForm))
}

// checkMessage returns the first error of a message, or OK.
func checkMessage(m Message) api.Errno {
	check := checkRestriction
	if m.Withdraw {
		check = checkWithdrawn
	}
	return base.FirstError(checkNumber(m.Number), check(m.Restriction))
}
