package possession

import (
	"versine/api"
	"versine/base"
)

// work is a possession of a register, and the number that an event of it tells, if it tells
// one behind its tick: persons, or a speed.
type work struct {
	Register
	Possession
	number int
}

// workOf returns the work of an event whose last name is that of a possession.
func workOf(r Register, e api.Event) work {
	p, _ := found(r.Possessions, e.Names[len(e.Names)-1])
	return work{r, p, e.Values[len(e.Values)-1]}
}

// whileOpen returns the check of an event of a possession that has to be open.
func whileOpen(check func(w work) api.Errno) func(r Register, e api.Event) api.Errno {
	return func(r Register, e api.Event) api.Errno {
		w := workOf(r, e)
		return base.FirstError(base.ErrorIf(!w.isOpen(), api.ErrOver), check(w))
	}
}

// changing returns the change of a register by an event that changes its possession.
func changing(change func(p Possession, number int) Possession) func(r Register, e api.Event) Register {
	return func(r Register, e api.Event) Register {
		w := workOf(r, e)
		r.Possessions = changed(r.Possessions, w.Name, func(p Possession) Possession {
			return change(p, w.number)
		})
		return r
	}
}

// checkPersons returns ErrRange for a number of persons that do not go in, or come out.
func checkPersons(n int) api.Errno { return base.CheckBetween(n, 1, MaxPersons) }

func (w work) checkProtect() api.Errno { return base.ErrorIf(w.Protected, api.ErrTwice) }

func (p Possession) protected(int) Possession {
	p.Protected = true
	return p
}

func (w work) checkClear() api.Errno {
	return base.FirstError(
		base.ErrorIf(!w.Protected, api.ErrState),
		base.ErrorIf(w.isEntered(w.Possession), api.ErrOpen),
	)
}

func (p Possession) cleared(int) Possession {
	p.Protected = false
	return p
}

func (w work) checkIn() api.Errno {
	return base.FirstError(
		base.ErrorIf(!w.Protected, api.ErrRule),
		base.ErrorIf(len(w.Machines) >= MaxMachines, api.ErrMany),
	)
}

func (w work) checkStaff() api.Errno {
	return base.FirstError(
		checkPersons(w.number),
		base.ErrorIf(!w.Protected, api.ErrRule),
		base.ErrorIf(w.Persons+w.number > MaxPersons, api.ErrLarge),
	)
}

func (p Possession) staffed(persons int) Possession {
	p.Persons += persons
	return p
}

func (w work) checkOff() api.Errno {
	return base.FirstError(
		checkPersons(w.number),
		base.ErrorIf(w.Persons < w.number, api.ErrShort),
	)
}

func (p Possession) left(persons int) Possession {
	p.Persons -= persons
	return p
}

func (w work) checkOpen() api.Errno {
	return base.FirstError(
		base.ErrorIf(w.Open, api.ErrTwice),
		base.ErrorIf(w.Closed >= MaxMeasured, api.ErrMany),
	)
}

func (p Possession) opened(int) Possession {
	p.Open = true
	return p
}

func (w work) checkClose() api.Errno {
	return base.FirstError(
		checkSpeed(w.number),
		base.ErrorIf(!w.Open, api.ErrState),
	)
}

func (p Possession) closed(speed int) Possession {
	p.Open = false
	p.Closed++
	p.Speed = speed
	return p
}

func (w work) checkReturn() api.Errno {
	return base.FirstError(
		base.ErrorIf(len(w.barrier(w.Possession)) > 0, api.ErrOpen),
		base.ErrorIf(w.Closed == 0, api.ErrNone),
	)
}

func (p Possession) returned(int) Possession {
	p.Returned = true
	return p
}

func checkRaise(r Register, e api.Event) api.Errno {
	w := workOf(r, e)
	return base.FirstError(
		base.ErrorIf(w.isOpen(), api.ErrState),
		base.ErrorIf(w.number > MaxSpeed, api.ErrRange),
		base.ErrorIf(w.number <= w.Speed, api.ErrRule),
	)
}

func (p Possession) raised(speed int) Possession {
	p.Speed = speed
	return p
}
