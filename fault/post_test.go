package fault_test

import (
	"slices"
	"testing"

	"versine/api"
	"versine/fault"
)

// TestArrived checks messages that are applied, and those that are not.
func TestArrived(t *testing.T) {
	one, two, three := post(1, a()), post(2, a(), b()), post(3, b())
	m := shownOffice(0).Messages
	full := post(63, manyRestrictions(64)...)
	almost := post(62, manyRestrictions(63)...)
	last := restriction("last", 0, 1, 2)
	for i, x := range []struct {
		p      fault.Post
		m      fault.Message
		after  fault.Post
		answer int
	}{
		{post(0), m[0], one, 1},
		{one, m[1], two, 2},
		{two, m[2], three, 3},
		{post(0), m[1], post(0), 0},
		{post(0), m[2], post(0), 0},
		{one, m[0], one, 1},
		{one, m[2], one, 1},
		{two, m[0], two, 2},
		{two, m[1], two, 2},
		{three, m[0], three, 3},
		{three, m[1], three, 3},
		{three, m[2], three, 3},
		{three, withdraws(5, "b"), three, 3},
		{three, withdraws(64, "b"), three, 3},
		{one, imposes(2, a()), one, 1}, // the next number, but it does not apply
		{one, imposes(2, restriction("a", 0, 1, 2)), one, 1},
		{one, withdraws(2, "b"), one, 1},
		{post(2), m[2], post(2), 2},
		{post(63), imposes(64, a()), post(64, a()), 64},
		{post(64, a()), withdraws(64, "a"), post(64, a()), 64},
		{post(64, a()), withdraws(1, "a"), post(64, a()), 64},
		{full, imposes(64, last), full, 63}, // as many as there may be
		{almost, imposes(63, last), post(63, append(manyRestrictions(63), last)...), 63},
		{full, withdraws(64, "r63"), post(64, manyRestrictions(63)...), 64},
		{full, withdraws(64, "r00"), post(64, manyRestrictions(64)[1:]...), 64},
		{post(2, b(), last, a()), withdraws(3, "last"), post(3, b(), a()), 3},
		{post(2, b(), last), imposes(3, a()), post(3, b(), last, a()), 3},
	} {
		p, answer, e := fault.Arrived(x.p, x.m)
		want(t, "Arrived", list(i, p, answer, e), list(i, x.after, x.answer, api.OK))
	}
}

// TestExchanged checks example 7, and rounds that lose messages and answers.
func TestExchanged(t *testing.T) {
	one, two, three := post(1, a()), post(2, a(), b()), post(3, b())
	quiet, deaf := fault.Round{Lost: ints(1, 2, 3, 64)}, fault.Round{Deaf: true}
	lost := func(l ...int) fault.Round { return fault.Round{Lost: l} }
	for i, x := range []struct {
		acked  int
		p      fault.Post
		rounds []fault.Round
		now    int
		after  fault.Post
	}{
		{0, post(0), []fault.Round{lost(2)}, 1, one},
		{0, post(0), []fault.Round{lost(2), {}}, 3, three},
		{0, post(0), nil, 0, post(0)},
		{0, two, nil, 0, two},
		{0, post(0), []fault.Round{{}}, 3, three},
		{0, post(0), []fault.Round{lost(1)}, 0, post(0)},
		{0, post(0), []fault.Round{lost(3)}, 2, two},
		{0, post(0), []fault.Round{lost(3, 2, 3)}, 1, one},
		{0, post(0), []fault.Round{lost(4, 64)}, 3, three},
		{0, post(0), []fault.Round{deaf}, 0, three},
		{0, post(0), []fault.Round{quiet}, 0, post(0)},
		{0, two, []fault.Round{quiet}, 2, two}, // the post answers also if it hears nothing
		{0, post(0), []fault.Round{deaf, quiet}, 3, three},
		{0, post(0), []fault.Round{deaf, {Lost: quiet.Lost, Deaf: true}}, 0, three},
		{0, post(0), []fault.Round{{Lost: ints(3), Deaf: true}, lost(1)}, 3, three},
		{0, post(0), []fault.Round{lost(1), lost(2), lost(3), {}}, 3, three},
		{0, post(0), []fault.Round{lost(3), lost(3), lost(3)}, 2, two},
		{1, one, []fault.Round{lost(1)}, 3, three},
		{1, three, []fault.Round{quiet}, 3, three},
		{1, three, []fault.Round{deaf}, 1, three},
		{2, two, []fault.Round{lost(3)}, 2, two},
		{3, three, []fault.Round{{}, quiet, deaf}, 3, three},
		{0, post(0), constant(lost(1), 64), 0, post(0)},
	} {
		o, p, e := fault.Exchanged(shownOffice(x.acked), x.p, x.rounds)
		want(t, "Exchanged", list(i, o, p, e), list(i, shownOffice(x.now), x.after, api.OK))
	}
	o, p, e := fault.Exchanged(office(0), post(0), []fault.Round{{}, {Deaf: true}})
	want(t, "Exchanged of nothing", list(o, p, e), list(office(0), post(0), api.OK))
}

// TestExchangedByDefinition checks rounds against numbers that are heard and acknowledged.
func TestExchangedByDefinition(t *testing.T) {
	g := source(9)
	between := map[bool]int{}
	for range 2000 {
		o := someOffice(g, 1<<g.IntN(6), 1+g.IntN(6))
		n := len(o.Messages)
		heard := o.Acked + g.IntN(n-o.Acked+1)
		rounds := someRounds(g, 5, n)
		now, acked := heard, o.Acked
		for _, r := range rounds {
			for number := acked + 1; number <= n; number++ {
				if number == now+1 && !slices.Contains(r.Lost, number) {
					now++
				}
			}
			if !r.Deaf {
				acked = max(acked, now)
			}
		}
		after, p, e := fault.Exchanged(o, postAfter(o, heard), rounds)
		want(t, "Exchanged", list(o, heard, rounds, after, p, e), list(o, heard, rounds, office(acked, o.Messages...), postAfter(o, now), api.OK))
		between[acked < now && now < n]++
	}
	if between[true] < 100 {
		t.Errorf("too few exchanges are incomplete: %v", between[true])
	}
}

// TestConflicts checks posts that are not what an office has sent.
func TestConflicts(t *testing.T) {
	g := source(10)
	conflicts, fits := 0, 0
	for range 2000 {
		o := someOffice(g, 8, 3)
		n := len(o.Messages)
		p := postAfter(o, g.IntN(n+1))
		p.Heard = g.IntN(n + 2)
		g.Shuffle(len(p.Force), func(a, b int) { p.Force[a], p.Force[b] = p.Force[b], p.Force[a] })
		wanted := api.ErrConflict
		if p.Heard <= n && p.Heard >= o.Acked && slices.Equal(p.Force, forceAfter(o.Messages, p.Heard)) {
			wanted = api.OK
		}
		after, q, e := fault.Exchanged(o, p, nil)
		if wanted != api.OK {
			conflicts++
			want(t, "Exchanged", list(o, p, after, q, e), list(o, p, fault.Office{}, fault.Post{}, wanted))
			continue
		}
		fits++
		want(t, "Exchanged", list(o, p, after, q, e), list(o, p, o, p, api.OK))
	}
	if conflicts < 500 || fits < 300 {
		t.Errorf("too few posts: %v are in conflict, %v are not", conflicts, fits)
	}
}

// TestAllowed checks the speeds of example 7, and the ends of spans.
func TestAllowed(t *testing.T) {
	two := post(2, a(), b())
	for i, x := range []struct {
		p            fault.Post
		place, speed int
	}{
		{post(3, b()), 15, 40}, {post(3, b()), 29, 40}, {post(3, b()), 12, 500}, {post(3, b()), 14, 500}, {post(3, b()), 30, 500},
		{post(1, a()), 12, 80}, {post(1, a()), 10, 80}, {post(1, a()), 19, 80}, {post(1, a()), 9, 500}, {post(1, a()), 20, 500},
		{two, 9, 500}, {two, 10, 80}, {two, 14, 80}, {two, 15, 40}, {two, 19, 40}, {two, 20, 40}, {two, 30, 500},
		{post(2, b(), a()), 17, 40}, {post(2, restriction("c", 0, 100, 60), a(), b()), 12, 60}, {post(0, restriction("c", 0, 1, 500)), 0, 500},
		{post(0, restriction("c", 0, 1, 0)), 0, 0}, {post(0), 0, 500}, {post(0), api.MaxPlace, 500},
	} {
		n, e := fault.Allowed(x.p, x.place)
		want(t, "Allowed", list(i, x.place, n, e), list(i, x.place, x.speed, api.OK))
	}
	g := source(11)
	for range 500 {
		o := someOffice(g, 30, 12)
		p, place := postAfter(o, g.IntN(len(o.Messages)+1)), g.IntN(75)
		speeds := ints(500)
		for _, r := range p.Force {
			for at := r.Span.From; at < r.Span.To; at++ {
				if at == place {
					speeds = append(speeds, r.Speed)
				}
			}
		}
		n, e := fault.Allowed(p, place)
		want(t, "Allowed", list(p, place, n, e), list(p, place, slices.Min(speeds), api.OK))
	}
}
