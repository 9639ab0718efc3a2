package possession

import (
	"versine/api"
	"versine/base"
	"versine/sample"
)

// The kinds that are more than a change of the register.
const (
	undoKind   = "undo"
	enterKind  = "enter"
	returnKind = "return"
)

// finder returns the track of what has a name in a register, and whether it is there.
type finder func(r Register, name string) (track string, isThere bool)

// kind is what events of a kind have, when they are accepted, and what follows from them.
type kind struct {
	names  []finder
	adds   bool // whether the first name is that of something new
	values int
	check  func(r Register, e api.Event) api.Errno // behind the errors of tick and names
	change func(r Register, e api.Event) Register  // but for the tick
}

// kinds is all kinds, by their words. Of undo it has no functions, as its event changes
// which events count.
type kinds map[string]kind

func allKinds() kinds {
	of := func(finders ...finder) []finder { return finders }
	track, fault, train := Register.findTrack, Register.findFault, Register.findTrain
	possession, machine := Register.findPossession, Register.findMachine
	return kinds{
		"track":    {of(track), true, 2, Register.checkTrack, Register.withTrack},
		"fault":    {of(fault, track), true, 4, Register.checkFault, Register.withFault},
		"answer":   {of(fault), false, 1, Register.checkAnswer, Register.withAnswer},
		"repair":   {of(fault, possession), false, 1, Register.checkRepair, Register.withRepair},
		enterKind:  {of(train, track), true, 2, Register.checkEnter, Register.withTrain},
		"leave":    {of(train), false, 1, noErrors, Register.withoutTrain},
		"take":     {of(possession, track), true, 3, Register.checkTake, Register.withPossession},
		"protect":  {of(possession), false, 1, whileOpen(work.checkProtect), changing(Possession.protected)},
		"clear":    {of(possession), false, 1, whileOpen(work.checkClear), changing(Possession.cleared)},
		"in":       {of(machine, possession), true, 1, whileOpen(work.checkIn), Register.withMachine},
		"out":      {of(machine), false, 1, noErrors, Register.withoutMachine},
		"staff":    {of(possession), false, 2, whileOpen(work.checkStaff), changing(Possession.staffed)},
		"off":      {of(possession), false, 2, whileOpen(work.checkOff), changing(Possession.left)},
		"open":     {of(possession), false, 1, whileOpen(work.checkOpen), changing(Possession.opened)},
		"close":    {of(possession), false, 2, whileOpen(work.checkClose), changing(Possession.closed)},
		returnKind: {of(possession), false, 1, whileOpen(work.checkReturn), changing(Possession.returned)},
		"raise":    {of(possession), false, 2, checkRaise, changing(Possession.raised)},
		undoKind:   {},
	}
}

func noErrors(Register, api.Event) api.Errno { return api.OK }

func checkName(name string) api.Errno { return base.ErrorIf(!sample.IsName(name), api.ErrName) }

func checkValue(n int) api.Errno { return base.CheckBetween(n, 0, api.MaxNumber) }

// check returns the first error of an event by itself, or OK.
func (all kinds) check(e api.Event) api.Errno {
	k, isKind := all[e.Kind]
	return base.FirstError(
		base.CheckBetween(e.Number, 1, api.MaxEvents),
		base.ErrorIf(!isKind, api.ErrKind),
		base.ErrorIf(len(e.Names) != len(k.names) || len(e.Values) != k.values, api.ErrShape),
		base.CheckEach(e.Names, checkName),
		base.CheckEach(e.Values, checkValue),
		base.ErrorIf(e.Text != "", api.ErrForm),
	)
}

// CheckEvent returns the first error of an event by itself, or OK.
func CheckEvent(e api.Event) api.Errno { return allKinds().check(e) }

// checkNames returns ErrUnknown if a name is none of those in a register where it has to be
// one, then ErrTwice if the first one is there where it has to be new, or OK.
func (k kind) checkNames(r Register, names []string) api.Errno {
	isTwice := false
	for i, find := range k.names {
		_, isThere := find(r, names[i])
		if i == 0 && k.adds {
			isTwice = isThere
			continue
		}
		if !isThere {
			return api.ErrUnknown
		}
	}
	return base.ErrorIf(isTwice, api.ErrTwice)
}

// checkAfter returns the error with which an event, other than undo, is not accepted after
// those that led to a register, or OK.
func (k kind) checkAfter(r Register, e api.Event) api.Errno {
	bad := base.FirstError(
		base.ErrorIf(tickOf(e) < r.Tick, api.ErrState),
		k.checkNames(r, e.Names),
	)
	if bad != api.OK {
		return bad
	}
	return k.check(r, e)
}

// trackOf returns the track that an accepted event is about: that of its last name, before it.
func (k kind) trackOf(r Register, e api.Event) string {
	last := len(k.names) - 1
	track, _ := k.names[last](r, e.Names[last])
	return track
}

// changed returns a register after an accepted event.
func (k kind) changed(r Register, e api.Event) Register {
	r = k.change(r, e)
	r.Tick = tickOf(e)
	return r
}

// tickOf returns the tick of an event other than undo.
func tickOf(e api.Event) int { return e.Values[0] }
