package possession

import (
	"slices"

	"versine/api"
	"versine/base"
)

// step is an event that counts, the track that it is about, and the register after it.
type step struct {
	event    api.Event
	track    string
	register Register
}

// history is the events that were accepted, one after the other, and the steps of those that
// count.
type history struct {
	events []api.Event
	steps  []step
}

// register returns the register after all events.
func (h *history) register() Register {
	if len(h.steps) == 0 {
		return Register{}
	}
	return h.steps[len(h.steps)-1].register
}

// checkUndo returns the error with which an undo is not accepted, or OK.
func (h *history) checkUndo() api.Errno {
	if len(h.steps) == 0 {
		return api.ErrEmpty
	}
	last := h.steps[len(h.steps)-1].event.Kind
	return base.ErrorIf(last == enterKind || last == returnKind, api.ErrRule)
}

// check returns the error with which an event without an error of its own is not accepted,
// or OK.
func (h *history) check(k kind, e api.Event) api.Errno {
	if e.Number != len(h.events)+1 {
		return api.ErrOrder
	}
	if e.Kind == undoKind {
		return h.checkUndo()
	}
	return k.checkAfter(h.register(), e)
}

// add adds an event that is accepted.
func (h *history) add(k kind, e api.Event) {
	h.events = append(h.events, e)
	if e.Kind == undoKind {
		h.steps = h.steps[:len(h.steps)-1]
		return
	}
	before := h.register()
	h.steps = append(h.steps, step{e, k.trackOf(before, e), k.changed(before, e)})
}

// next adds an event, or returns its first error.
func (h *history) next(all kinds, e api.Event) api.Errno {
	bad := base.FirstError(all.check(e), base.ErrorIf(len(h.events) >= api.MaxEvents, api.ErrMany))
	if bad != api.OK {
		return bad
	}
	k := all[e.Kind]
	if bad := h.check(k, e); bad != api.OK {
		return bad
	}
	h.add(k, e)
	return api.OK
}

// replayed returns the history of events, or the number of the first one with an error, and
// this error.
func replayed(l []api.Event) (history, int, api.Errno) {
	if len(l) > api.MaxEvents {
		return history{}, 0, api.ErrMany
	}
	var h history
	all := allKinds()
	for i, e := range l {
		if bad := h.next(all, e); bad != api.OK {
			return history{}, i + 1, bad
		}
	}
	return h, 0, api.OK
}

// Replay returns the register after some events, or the number of the first one with an error.
func Replay(l []api.Event) (Register, int, api.Errno) {
	h, number, e := replayed(l)
	return h.register(), number, e
}

// Accepts returns the error with which an event is not accepted after others, or OK.
func Accepts(l []api.Event, e api.Event) api.Errno {
	h, _, bad := replayed(l)
	if bad != api.OK {
		return bad
	}
	return h.next(allKinds(), e)
}

// AsOf returns the register after those events that count, up to a tick.
func AsOf(l []api.Event, tick int) (Register, api.Errno) {
	h, _, e := replayed(l)
	if e := base.FirstError(e, checkValue(tick)); e != api.OK {
		return Register{}, e
	}
	var r Register
	for _, s := range h.steps { // their ticks ascend
		if s.register.Tick <= tick {
			r = s.register
		}
	}
	return r, api.OK
}

// copied returns an event in memory of its own.
func copied(e api.Event) api.Event {
	e.Names, e.Values = slices.Clone(e.Names), slices.Clone(e.Values)
	return e
}

// Story returns the events that count and are about a track, with the numbers from 1 on.
func Story(l []api.Event, track string) ([]api.Event, api.Errno) {
	h, _, e := replayed(l)
	if e := base.FirstError(e, checkThere(h.register(), Register.findTrack, track)); e != api.OK {
		return nil, e
	}
	var story []api.Event
	for _, s := range h.steps {
		if s.track == track {
			x := copied(s.event)
			x.Number = len(story) + 1
			story = append(story, x)
		}
	}
	return story, api.OK
}
