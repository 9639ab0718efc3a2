package fault

import (
	"slices"

	"versine/api"
	"versine/base"
)

// force is the restrictions in force, in the order in which they were imposed, which are
// found by their names.
type force struct {
	list  []Restriction
	names map[string]bool
}

// forceOf returns restrictions of different names, in memory of their own.
func forceOf(l []Restriction) *force {
	f := force{slices.Clone(l), map[string]bool{}}
	for _, r := range l {
		f.names[r.Name] = true
	}
	return &f
}

// next applies a message, or returns why it does not apply.
func (f *force) next(m Message) api.Errno {
	name := m.Restriction.Name
	if m.Withdraw {
		return f.withdraw(name)
	}
	e := base.FirstError(
		base.ErrorIf(f.names[name], api.ErrTwice),
		base.ErrorIf(len(f.list) >= MaxMessages, api.ErrMany),
	)
	if e != api.OK {
		return e
	}
	f.list = append(f.list, m.Restriction)
	f.names[name] = true
	return api.OK
}

func (f *force) withdraw(name string) api.Errno {
	if !f.names[name] {
		return api.ErrUnknown
	}
	f.list = slices.DeleteFunc(f.list, func(r Restriction) bool { return r.Name == name })
	delete(f.names, name)
	return api.OK
}

// applied returns what is in force after messages from the number 1 on, or the first
// error of them.
func applied(messages []Message) (*force, api.Errno) {
	f := forceOf(nil)
	for before := range len(messages) {
		m := messages[before]
		e := base.FirstError(
			checkMessage(m),
			base.ErrorIf(m.Number != before+1, api.ErrOrder),
			f.next(m), // nobody asks for what is in force after an error
		)
		if e != api.OK {
			return f, e
		}
	}
	return f, api.OK
}

// CheckOffice returns the first error of an office, or OK.
func CheckOffice(o Office) api.Errno {
	if len(o.Messages) > MaxMessages {
		return api.ErrMany
	}
	_, e := applied(o.Messages)
	return base.FirstError(e, base.CheckBetween(o.Acked, 0, len(o.Messages)))
}

// force returns what is in force after the messages of an office up to a number.
func (o Office) force(number int) *force {
	f, _ := applied(o.Messages[:number])
	return f
}

// copied returns an office in memory of its own.
func (o Office) copied() Office { return Office{slices.Clone(o.Messages), o.Acked} }

// with returns an office with one message more, which gets its number there.
func (o Office) with(m Message) (Office, api.Errno) {
	n := len(o.Messages)
	e := base.FirstError(o.force(n).next(m), base.ErrorIf(n == MaxMessages, api.ErrMany))
	if e != api.OK {
		return Office{}, e
	}
	m.Number = n + 1
	longer := o.copied()
	longer.Messages = append(longer.Messages, m)
	return longer, api.OK
}

// Imposed returns an office with a message that imposes a restriction.
func Imposed(o Office, r Restriction) (Office, api.Errno) {
	if e := base.FirstError(CheckOffice(o), checkRestriction(r)); e != api.OK {
		return Office{}, e
	}
	return o.with(Message{Restriction: r})
}

// Withdrawn returns an office with a message that withdraws a restriction.
func Withdrawn(o Office, name string) (Office, api.Errno) {
	if e := base.FirstError(CheckOffice(o), checkName(name)); e != api.OK {
		return Office{}, e
	}
	return o.with(Message{Withdraw: true, Restriction: Restriction{Name: name}})
}

// Sent returns the messages that are not acknowledged.
func Sent(o Office) ([]Message, api.Errno) {
	if e := CheckOffice(o); e != api.OK {
		return nil, e
	}
	return slices.Clone(o.Messages[o.Acked:]), api.OK
}

// Acknowledged returns an office after an answer has arrived.
func Acknowledged(o Office, answer int) (Office, api.Errno) {
	if e := base.FirstError(CheckOffice(o), base.CheckBetween(answer, 0, len(o.Messages))); e != api.OK {
		return Office{}, e
	}
	return o.copied().answered(answer), api.OK
}

// answered returns an office after an answer.
func (o Office) answered(answer int) Office {
	o.Acked = max(o.Acked, answer)
	return o
}

// InForce returns the restrictions in force after all messages of an office.
func InForce(o Office) ([]Restriction, api.Errno) {
	if e := CheckOffice(o); e != api.OK {
		return nil, e
	}
	return o.force(len(o.Messages)).list, api.OK
}

// Safe reports whether the line is safe.
func Safe(o Office) (bool, api.Errno) {
	if e := CheckOffice(o); e != api.OK {
		return false, e
	}
	isOpen := slices.ContainsFunc(o.Messages[o.Acked:], func(m Message) bool { return !m.Withdraw })
	return !isOpen, api.OK
}
