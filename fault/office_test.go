package fault_test

import (
	"math/rand/v2"
	"slices"
	"testing"

	"versine/api"
	"versine/fault"
	"versine/sample"
)

// TestOffice checks the office of example 7.
func TestOffice(t *testing.T) {
	o, e := fault.Imposed(office(0), a())
	want(t, "Imposed", list(o, e), list(office(0, imposes(1, a())), api.OK))
	o, e = fault.Imposed(o, b())
	want(t, "Imposed", list(o, e), list(office(0, imposes(1, a()), imposes(2, b())), api.OK))
	o, e = fault.Withdrawn(o, "a")
	want(t, "Withdrawn", list(o, e), list(shownOffice(0), api.OK))
	l, e := fault.InForce(o)
	want(t, "InForce", list(l, e), list([]fault.Restriction{b()}, api.OK))
	other := restriction("a", 0, 7, 0)
	o, e = fault.Imposed(shownOffice(2), other)
	want(t, "Imposed again", list(o, e), list(office(2, append(shownOffice(2).Messages, imposes(4, other))...), api.OK))
	l, e = fault.InForce(o)
	want(t, "InForce", list(l, e), list([]fault.Restriction{b(), other}, api.OK))
	o, e = fault.Withdrawn(o, "a")
	want(t, "Withdrawn again", list(o.Messages[3:], o.Acked, e), list([]fault.Message{imposes(4, other), withdraws(5, "a")}, 2, api.OK))
	o, e = fault.Withdrawn(o, "b")
	want(t, "Withdrawn", list(o.Messages[5:], e), list([]fault.Message{withdraws(6, "b")}, api.OK))
	l, e = fault.InForce(o)
	want(t, "InForce", list(l, e), list([]fault.Restriction(nil), api.OK))
	l, e = fault.InForce(office(0))
	want(t, "InForce", list(l, e), list([]fault.Restriction(nil), api.OK))
	l, e = fault.InForce(fullOffice(64))
	want(t, "InForce", list(l, e), list(manyRestrictions(64), api.OK))
}

// TestSentAndSafe checks what is sent, and whether the line is safe.
func TestSentAndSafe(t *testing.T) {
	twice := office(1, imposes(1, a()), withdraws(2, "a"), imposes(3, a()), withdraws(4, "a"))
	for i, x := range []struct {
		o    fault.Office
		sent []fault.Message
		safe bool
	}{
		{shownOffice(0), shownOffice(0).Messages, false},
		{shownOffice(1), shownOffice(0).Messages[1:], false},
		{shownOffice(2), shownOffice(0).Messages[2:], true},
		{shownOffice(3), nil, true},
		{office(0), nil, true},
		{twice, twice.Messages[1:], false},
		{office(2, twice.Messages...), twice.Messages[2:], false},
		{office(3, twice.Messages...), twice.Messages[3:], true},
		{office(0, imposes(1, a())), []fault.Message{imposes(1, a())}, false},
		{office(1, imposes(1, a())), nil, true},
	} {
		l, e := fault.Sent(x.o)
		is, f := fault.Safe(x.o)
		want(t, "Sent, Safe", list(i, l, e, is, f), list(i, x.sent, api.OK, x.safe, api.OK))
	}
}

// TestAcknowledged checks that answers only add.
func TestAcknowledged(t *testing.T) {
	for acked := range 4 {
		for answer := range 4 {
			o, e := fault.Acknowledged(shownOffice(acked), answer)
			want(t, "Acknowledged", list(acked, answer, o, e), list(acked, answer, shownOffice(max(acked, answer)), api.OK))
		}
	}
	o, e := fault.Acknowledged(office(0), 0)
	want(t, "Acknowledged", list(o, e), list(office(0), api.OK))
}

// errorOfRestriction returns the error of a restriction.
func errorOfRestriction(r fault.Restriction) api.Errno {
	switch {
	case !sample.IsName(r.Name):
		return api.ErrName
	case r.Span.From < 0 || r.Span.To > api.MaxPlace || r.Span.From >= r.Span.To:
		return api.ErrSpan
	case r.Speed < 0 || r.Speed > 500:
		return api.ErrRange
	}
	return api.OK
}

// errorOfMessage returns the error of a message.
func errorOfMessage(m fault.Message) api.Errno {
	r := m.Restriction
	switch {
	case m.Number < 1 || m.Number > 64:
		return api.ErrRange
	case !m.Withdraw:
		return errorOfRestriction(r)
	case !sample.IsName(r.Name):
		return api.ErrName
	case r.Span.From != 0 || r.Span.To != 0 || r.Speed != 0:
		return api.ErrForm
	}
	return api.OK
}

// errorOfOffice returns the error of an office by its definition.
func errorOfOffice(o fault.Office) api.Errno {
	for i, m := range o.Messages {
		isInForce := slices.ContainsFunc(forceAfter(o.Messages, i), func(r fault.Restriction) bool {
			return r.Name == m.Restriction.Name
		})
		switch e := errorOfMessage(m); {
		case e != api.OK:
			return e
		case m.Number != i+1:
			return api.ErrOrder
		case !m.Withdraw && isInForce:
			return api.ErrTwice
		case m.Withdraw && !isInForce:
			return api.ErrUnknown
		}
	}
	if o.Acked < 0 || o.Acked > len(o.Messages) {
		return api.ErrRange
	}
	return api.OK
}

// anyMessage returns a message that mostly has a number and is without an error.
func anyMessage(g *rand.Rand, number int) fault.Message {
	name := "n" + string(rune('a'+g.IntN(4)))
	m := imposes(number, restriction(name, g.IntN(9), between(g, 9, 20), g.IntN(501)))
	if g.IntN(2) == 0 {
		m = withdraws(number, name)
	}
	switch g.IntN(60) {
	case 0:
		m.Number += between(g, -2, 2)
	case 1:
		m.Restriction.Name = ""
	case 2:
		m.Restriction.Span.To = g.IntN(9)
	case 3:
		m.Restriction.Speed = 501
	case 4:
		m.Withdraw = !m.Withdraw
	}
	return m
}

// TestOfficesByDefinition checks offices of any messages against what is in force before each of them.
func TestOfficesByDefinition(t *testing.T) {
	g := source(7)
	seen := map[api.Errno]int{}
	for range 6000 {
		o := office(between(g, -1, 4))
		for i := range g.IntN(9) {
			o.Messages = append(o.Messages, anyMessage(g, i+1))
			for range 2 {
				if e := errorOfOffice(office(0, o.Messages...)); e == api.ErrTwice || e == api.ErrUnknown {
					o.Messages[i] = anyMessage(g, i+1)
				}
			}
		}
		e := errorOfOffice(o)
		seen[e]++
		want(t, "CheckOffice", list(o, fault.CheckOffice(o)), list(o, e))
		l, f := fault.InForce(o)
		if e != api.OK {
			want(t, "InForce", list(o, l, f), list(o, []fault.Restriction(nil), e))
			continue
		}
		want(t, "InForce", list(o, l, f), list(o, forceAfter(o.Messages, len(o.Messages)), api.OK))
	}
	for _, e := range []api.Errno{api.OK, api.ErrRange, api.ErrName, api.ErrSpan, api.ErrForm, api.ErrOrder, api.ErrTwice, api.ErrUnknown} {
		if seen[e] < 40 {
			t.Errorf("too few offices with the error %v: %v", e, seen[e])
		}
	}
}

// TestLongOffices checks offices that grow by messages of both kinds up to the greatest number of them.
func TestLongOffices(t *testing.T) {
	g := source(8)
	for range 20 {
		o := office(0)
		for len(o.Messages) < 64 {
			n := len(o.Messages)
			force := forceAfter(o.Messages, n)
			r := restriction("n"+string(rune('a'+g.IntN(20))), g.IntN(9), between(g, 9, 20), g.IntN(501))
			isInForce := slices.ContainsFunc(force, func(x fault.Restriction) bool { return x.Name == r.Name })
			withdrawn, e1 := fault.Withdrawn(o, r.Name)
			imposed, e2 := fault.Imposed(o, r)
			if isInForce {
				want(t, "a name in force", list(withdrawn, e1, imposed, e2), list(office(0, append(slices.Clone(o.Messages), withdraws(n+1, r.Name))...), api.OK, fault.Office{}, api.ErrTwice))
				o = withdrawn
			} else {
				want(t, "a name that is not in force", list(withdrawn, e1, imposed, e2), list(fault.Office{}, api.ErrUnknown, office(0, append(slices.Clone(o.Messages), imposes(n+1, r))...), api.OK))
				o = imposed
			}
			l, e := fault.InForce(o)
			want(t, "InForce", list(o, l, e), list(o, forceAfter(o.Messages, n+1), api.OK))
		}
	}
}
