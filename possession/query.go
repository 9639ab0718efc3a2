package possession

import (
	"versine/api"
	"versine/base"
)

// checkThere returns ErrUnknown if a register does not have what has a name, or OK.
func checkThere(r Register, find finder, name string) api.Errno {
	_, isThere := find(r, name)
	return base.ErrorIf(!isThere, api.ErrUnknown)
}

// registerWith returns the register after events, or their error, then ErrUnknown if it does
// not have what has a name.
func registerWith(l []api.Event, find finder, name string) (Register, api.Errno) {
	r, _, e := Replay(l)
	if e := base.FirstError(e, checkThere(r, find, name)); e != api.OK {
		return Register{}, e
	}
	return r, api.OK
}

// Permitted returns the permitted speed of a track.
func Permitted(l []api.Event, track string) (int, api.Errno) {
	r, e := registerWith(l, Register.findTrack, track)
	if e != api.OK {
		return 0, e
	}
	return r.permitted(track), api.OK
}

// Next returns the greatest speed with which the next train may enter a track.
func Next(l []api.Event, track string) (int, api.Errno) {
	r, e := registerWith(l, Register.findTrack, track)
	speed := r.permitted(track)
	if e := base.FirstError(e, r.checkEntry(track), base.ErrorIf(speed == 0, api.ErrNone)); e != api.OK {
		return 0, e
	}
	return speed, api.OK
}

// Silent returns the names of the silent faults.
func Silent(l []api.Event) ([]string, api.Errno) {
	r, _, e := Replay(l)
	return base.Mapped(r.silent(), nameOf), e
}

// Blocked returns the spans of the open possessions of a track, ascending.
func Blocked(l []api.Event, track string) ([]api.Span, api.Errno) {
	r, e := registerWith(l, Register.findTrack, track)
	return r.blocked(track), e
}

// openWith returns the register after events, and its possession with a name, or the first
// error of both, then ErrOver if the possession has been given back.
func openWith(l []api.Event, name string) (Register, Possession, api.Errno) {
	r, e := registerWith(l, Register.findPossession, name)
	p, _ := found(r.Possessions, name)
	if e := base.FirstError(e, base.ErrorIf(!p.isOpen(), api.ErrOver)); e != api.OK {
		return Register{}, Possession{}, e
	}
	return r, p, api.OK
}

// Barrier returns what holds a possession.
func Barrier(l []api.Event, possession string) ([]string, api.Errno) {
	r, p, e := openWith(l, possession)
	return r.barrier(p), e
}

// Ready reports whether a possession is ready to be given back.
func Ready(l []api.Event, possession string) (bool, api.Errno) {
	r, p, e := openWith(l, possession)
	return len(r.barrier(p)) == 0 && p.Closed > 0, e
}

// Inside returns the numbers of machines and persons in a possession.
func Inside(l []api.Event, possession string) ([2]int, api.Errno) {
	r, e := registerWith(l, Register.findPossession, possession)
	p, _ := found(r.Possessions, possession)
	return r.inside(p), e
}
