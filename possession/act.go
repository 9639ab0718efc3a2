package possession

import (
	"slices"

	"versine/api"
	"versine/base"
)

// checkSpeed returns ErrRange for a speed that no train has, as 0.
func checkSpeed(n int) api.Errno { return base.CheckBetween(n, 1, MaxSpeed) }

// spanOf returns the places of an event that has them behind its tick.
func spanOf(e api.Event) api.Span { return api.Span{From: e.Values[1], To: e.Values[2]} }

func checkSpan(s api.Span) api.Errno {
	return base.ErrorIf(s.From >= s.To || s.To > api.MaxPlace, api.ErrSpan)
}

func (r Register) checkTrack(e api.Event) api.Errno {
	return base.FirstError(
		checkSpeed(e.Values[1]),
		base.ErrorIf(len(r.Tracks) >= MaxTracks, api.ErrMany),
	)
}

func (r Register) withTrack(e api.Event) Register {
	r.Tracks = with(r.Tracks, Track{Name: e.Names[0], Speed: e.Values[1]})
	return r
}

func (r Register) checkFault(e api.Event) api.Errno {
	return base.FirstError(
		checkSpan(spanOf(e)),
		base.ErrorIf(e.Values[3] > MaxSpeed, api.ErrRange),
		base.ErrorIf(len(r.Faults) >= MaxFaults, api.ErrMany),
	)
}

func (r Register) withFault(e api.Event) Register {
	r.Faults = with(r.Faults, Fault{Name: e.Names[0], Track: e.Names[1], Span: spanOf(e), Speed: e.Values[3]})
	return r
}

func (r Register) checkAnswer(e api.Event) api.Errno {
	f, _ := found(r.Faults, e.Names[0])
	return base.FirstError(
		base.ErrorIf(f.Repaired, api.ErrOver),
		base.ErrorIf(f.Answered, api.ErrTwice),
	)
}

func (r Register) withAnswer(e api.Event) Register {
	r.Faults = changed(r.Faults, e.Names[0], func(f Fault) Fault {
		f.Answered = true
		return f
	})
	return r
}

func (r Register) checkRepair(e api.Event) api.Errno {
	f, _ := found(r.Faults, e.Names[0])
	p, _ := found(r.Possessions, e.Names[1])
	isCovered := p.isOpen() && p.Track == f.Track && hasAll(p.Span, f.Span)
	return base.FirstError(
		base.ErrorIf(f.Repaired, api.ErrOver),
		base.ErrorIf(!isCovered, api.ErrRule),
		base.ErrorIf(!r.isEntered(p), api.ErrEmpty),
	)
}

func (r Register) withRepair(e api.Event) Register {
	r.Faults = changed(r.Faults, e.Names[0], func(f Fault) Fault {
		f.Repaired = true
		return f
	})
	return r
}

func (r Register) checkEnter(e api.Event) api.Errno {
	track, speed := e.Names[1], e.Values[1]
	return base.FirstError(
		r.checkEntry(track),
		base.ErrorIf(speed == 0 || speed > r.permitted(track), api.ErrLimit),
		base.ErrorIf(len(r.Trains) >= MaxTrains, api.ErrMany),
	)
}

func (r Register) withTrain(e api.Event) Register {
	r.Trains = with(r.Trains, Train{Name: e.Names[0], Track: e.Names[1], Speed: e.Values[1]})
	return r
}

func (r Register) withoutTrain(e api.Event) Register {
	r.Trains = without(r.Trains, e.Names[0])
	return r
}

func (r Register) checkTake(e api.Event) api.Errno {
	track, span := e.Names[1], spanOf(e)
	isOnTrack := func(t Train) bool { return t.Track == track }
	return base.FirstError(
		checkSpan(span),
		base.ErrorIf(slices.ContainsFunc(r.Trains, isOnTrack), api.ErrHeld),
		base.ErrorIf(r.overlaps(track, span), api.ErrOverlap),
		base.ErrorIf(len(r.Possessions) >= MaxPossessions, api.ErrMany),
	)
}

func (r Register) withPossession(e api.Event) Register {
	r.Possessions = with(r.Possessions, Possession{Name: e.Names[0], Track: e.Names[1], Span: spanOf(e)})
	return r
}

func (r Register) withMachine(e api.Event) Register {
	r.Machines = with(r.Machines, Machine{Name: e.Names[0], Possession: e.Names[1]})
	return r
}

func (r Register) withoutMachine(e api.Event) Register {
	r.Machines = without(r.Machines, e.Names[0])
	return r
}
