package inertia

import (
	"iter"
	"slices"

	"versine/api"
	"versine/base"
	"versine/sample"
)

// CheckTicks returns the first error of ticks, or OK.
func CheckTicks(l []Tick) api.Errno {
	if len(l) > MaxTicks {
		return api.ErrMany
	}
	last := 0
	for _, t := range l {
		e := base.FirstError(
			base.CheckBetween(t.Place, 0, api.MaxPlace),
			base.CheckEach(t.Reading[:], sample.CheckSample),
			base.ErrorIf(t.Place < last, api.ErrOrder),
		)
		if e != api.OK {
			return e
		}
		last = t.Place
	}
	return api.OK
}

func checkLimit(limit int) api.Errno { return base.CheckBetween(limit, 0, MaxLimit) }

// ballot is a tick with its vote, an integer, which is known by all limits from the
// gap to the next reading on.
type ballot struct {
	Tick
	vote int
	gap  int
}

// ballot returns the ballot of a tick without an error.
func (t Tick) ballot() ballot {
	first := t.Reading[0]
	if t.Reading == [3]float32{first, first, first} { // as most triples, which need no sorting
		return ballot{Tick: t, vote: base.IntegerOf(first)}
	}
	l := integersOf(t.Reading[:])
	slices.Sort(l)
	return ballot{t, l[1], min(l[1]-l[0], l[2]-l[1])}
}

// known visits the ballots whose vote is known by a limit, with their indices.
func known(ballots []ballot, limit int) iter.Seq2[int, ballot] {
	return func(yield func(int, ballot) bool) {
		for i, b := range ballots {
			if b.gap <= limit && !yield(i, b) {
				return
			}
		}
	}
}

// Voted returns the vote of each tick, and the spans of those that are unknown.
func Voted(l []Tick, limit int) ([]float32, []api.Span, api.Errno) {
	if e := base.FirstError(CheckTicks(l), checkLimit(limit)); e != api.OK {
		return nil, nil, e
	}
	votes := make([]float32, len(l))
	isKnown := make([]bool, len(l))
	for i, b := range known(base.Mapped(l, Tick.ballot), limit) {
		votes[i], isKnown[i] = base.SampleOf(b.vote), true
	}
	return votes, base.HolesOf(isKnown), api.OK
}

// checkPlaces returns the first error of a span of places, or OK.
func checkPlaces(places api.Span) api.Errno {
	return base.FirstError(
		base.ErrorIf(places.From < 0 || places.From > places.To || places.To > api.MaxPlace, api.ErrSpan),
		base.ErrorIf(places.To-places.From > api.MaxSamples, api.ErrMany),
	)
}

// Stepped returns the readings at all places of a span.
func Stepped(l []Tick, limit int, places api.Span) ([]float32, api.Errno) {
	if e := base.FirstError(CheckTicks(l), checkLimit(limit), checkPlaces(places)); e != api.OK {
		return nil, e
	}
	votes := known(base.Mapped(l, Tick.ballot), limit)
	readings := make([]int, places.To-places.From)
	for i := range readings {
		reading, isThere := readingAt(votes, places.From+i)
		if !isThere {
			return nil, api.ErrNone
		}
		readings[i] = reading
	}
	return signalOf(readings)
}

// readingAt returns the integer of the reading at a place by known votes, and whether
// there is one.
func readingAt(votes iter.Seq2[int, ballot], place int) (int, bool) {
	var before, after ballot // the last one up to the place, and the first one behind it
	hasBefore, hasAfter := false, false
search:
	for _, b := range votes {
		switch {
		case b.Place <= place:
			before, hasBefore = b, true
		default:
			after, hasAfter = b, true
			break search
		}
	}
	switch {
	case hasBefore && before.Place == place:
		return before.vote, true
	case hasBefore && hasAfter:
		return between(before, after, place), true
	}
	return 0, false
}

// between returns the integer at a place on the straight line between two ballots.
func between(a, b ballot, place int) int {
	return base.Rounded(a.vote*(b.Place-place)+b.vote*(place-a.Place), b.Place-a.Place)
}
