package possession

import (
	"iter"
	"slices"

	"versine/api"
	"versine/base"
)

// What holds a possession beside its machines.
const (
	staffBarrier       = "staff"
	measurementBarrier = "measurement"
	protectionBarrier  = "protection"
)

// findTrack returns the track with a name, also if there is none, and whether there is one.
func (r Register) findTrack(name string) (string, bool) {
	_, isThere := found(r.Tracks, name)
	return name, isThere
}

// findFault returns the track of the fault with a name, and whether there is one.
func (r Register) findFault(name string) (string, bool) {
	f, isThere := found(r.Faults, name)
	return f.Track, isThere
}

// findTrain returns the track of the train with a name, and whether there is one.
func (r Register) findTrain(name string) (string, bool) {
	t, isThere := found(r.Trains, name)
	return t.Track, isThere
}

// findPossession returns the track of the possession with a name, and whether there is one.
func (r Register) findPossession(name string) (string, bool) {
	p, isThere := found(r.Possessions, name)
	return p.Track, isThere
}

// findMachine returns the track on which the machine with a name is, and whether there is one.
func (r Register) findMachine(name string) (string, bool) {
	m, isThere := found(r.Machines, name)
	track, _ := r.findPossession(m.Possession)
	return track, isThere
}

func (f Fault) isSilent() bool { return !f.Repaired && !f.Answered }

// isRestricting reports whether the restriction of a fault is in force.
func (f Fault) isRestricting() bool { return !f.Repaired && f.Answered }

func (p Possession) isOpen() bool { return !p.Returned }

// silent returns the silent faults.
func (r Register) silent() []Fault { return filtered(r.Faults, Fault.isSilent) }

// open returns the open possessions.
func (r Register) open() []Possession { return filtered(r.Possessions, Possession.isOpen) }

// possessionsOf visits the possessions of a track, in their order.
func (r Register) possessionsOf(track string) iter.Seq[Possession] {
	return func(yield func(p Possession) bool) {
		for _, p := range r.Possessions {
			if p.Track == track && !yield(p) {
				return
			}
		}
	}
}

// permitted returns the permitted speed of a track.
func (r Register) permitted(track string) int {
	t, _ := found(r.Tracks, track)
	speed := t.Speed
	for _, f := range r.Faults {
		if f.Track == track && f.isRestricting() {
			speed = min(speed, f.Speed)
		}
	}
	for p := range r.possessionsOf(track) {
		if p.Returned {
			speed = min(speed, p.Speed)
		}
	}
	return speed
}

// blocked returns the spans of the open possessions of a track, ascending.
func (r Register) blocked(track string) []api.Span {
	var spans []api.Span
	for p := range r.possessionsOf(track) {
		if p.isOpen() {
			spans = append(spans, p.Span)
		}
	}
	slices.SortFunc(spans, func(a, b api.Span) int { return a.From - b.From })
	return spans
}

// common returns the places that are in both spans, which are none if it does not end
// behind its From.
func common(a, b api.Span) api.Span {
	return api.Span{From: max(a.From, b.From), To: min(a.To, b.To)}
}

// hasAll reports whether a span has all places of another one, which is not empty.
func hasAll(s, other api.Span) bool { return common(s, other) == other }

// overlaps reports whether an open possession of a track has a place of a span.
func (r Register) overlaps(track string, s api.Span) bool {
	isTaken := false
search:
	for p := range r.possessionsOf(track) {
		if both := common(p.Span, s); p.isOpen() && both.From < both.To {
			isTaken = true
			break search
		}
	}
	return isTaken
}

// checkEntry returns the error with which no train may enter a track at any speed, or OK.
func (r Register) checkEntry(track string) api.Errno {
	isOfTrack := func(f Fault) bool { return f.Track == track }
	return base.FirstError(
		base.ErrorIf(len(r.blocked(track)) > 0, api.ErrHeld),
		base.ErrorIf(slices.ContainsFunc(r.silent(), isOfTrack), api.ErrOpen),
	)
}

// machinesIn returns the machines in a possession, in their order.
func (r Register) machinesIn(p Possession) []Machine {
	return filtered(r.Machines, func(m Machine) bool { return m.Possession == p.Name })
}

// inside returns the numbers of machines and persons in a possession.
func (r Register) inside(p Possession) [2]int {
	return [2]int{len(r.machinesIn(p)), p.Persons}
}

// isEntered reports whether a machine or a person is in a possession.
func (r Register) isEntered(p Possession) bool { return r.inside(p) != [2]int{} }

// barrier returns what holds a possession.
func (r Register) barrier(p Possession) []string {
	barrier := base.Mapped(r.machinesIn(p), nameOf)
	if p.Persons > 0 {
		barrier = append(barrier, staffBarrier)
	}
	if p.Open {
		barrier = append(barrier, measurementBarrier)
	}
	if p.Protected {
		barrier = append(barrier, protectionBarrier)
	}
	return barrier
}
