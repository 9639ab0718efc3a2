package fault_test

import (
	"slices"
	"testing"

	"versine/api"
	"versine/fault"
)

// faultAt returns the fault that has a place, and whether there is one.
func faultAt(l []fault.Fault, place int) (fault.Fault, bool) {
	for _, f := range l {
		if f.Span.From <= place && place < f.Span.To {
			return f, true
		}
	}
	return fault.Fault{}, false
}

// TestPlacesAboveLimits checks that each place that is above a limit by more than the band is in a fault that is sure, and that none that is below it by more than the band is in a fault.
func TestPlacesAboveLimits(t *testing.T) {
	g := source(20)
	over, under := 0, 0
	for range 1500 {
		bound := 1 << between(g, 2, 14)
		l, r, speed := someLimits(g, min(bound/4, 1000), bound), someRun(g, 60, bound), between(g, 1, 500)
		limit, e := fault.Limit(l, speed)
		faults, f := fault.Exceeded(l, r, speed)
		want(t, "the errors of Limit and Exceeded", list(f), list(e))
		if e != api.OK {
			continue
		}
		for i, p := range placesOf(r) {
			f, isAny := faultAt(faults, r.First+i)
			switch n := absolute(p.integer); {
			case p.isKnown && n > limit+l.Band:
				over++
				if !isAny || !f.Sure {
					t.Errorf("the faults of %v at %v by %v: got %v, without %v for sure", r, speed, l, faults, r.First+i)
				}
			case !p.isKnown || n < limit-l.Band:
				under++
				if isAny {
					t.Errorf("the faults of %v at %v by %v: got %v, with %v", r, speed, l, faults, r.First+i)
				}
			}
		}
		want(t, "CheckFaults", list(faults, fault.CheckFaults(faults)), list(faults, api.OK))
	}
	if over < 2000 || under < 2000 {
		t.Errorf("too few places: %v are above, %v below", over, under)
	}
}

// TestGreaterSpeeds checks that a greater speed permits no more, and has no fewer places in faults.
func TestGreaterSpeeds(t *testing.T) {
	g := source(21)
	less := 0
	for range 400 {
		bound := 1 << between(g, 2, 14)
		l, r := someLimits(g, min(bound/4, 1000), bound), someRun(g, 30, bound)
		slow := between(g, 1, 500)
		fast := between(g, slow, 500)
		many, e := fault.Limit(l, slow)
		few, f := fault.Limit(l, fast)
		if f != api.OK {
			continue
		}
		if e != api.OK || few > many {
			t.Errorf("the limits of %v: got %v at %v, and %v, %v at %v", l, few, fast, many, e, slow)
		}
		if few < many {
			less++
		}
		some, e := fault.Exceeded(l, r, slow)
		more, f := fault.Exceeded(l, r, fast)
		want(t, "the errors of Exceeded", list(e, f), list(api.OK, api.OK))
		for _, x := range some {
			y, isAny := faultAt(more, x.Span.From)
			if !isAny || y.Span.To < x.Span.To || x.Sure && !y.Sure {
				t.Errorf("the faults of %v by %v: got %v at %v, and %v at %v", r, l, more, fast, some, slow)
			}
		}
	}
	if less < 100 {
		t.Errorf("too few limits are less: %v", less)
	}
}

// TestSafeSpeeds checks that at the safe speed no place is above for sure, nor may be, but may be at the next greater one.
func TestSafeSpeeds(t *testing.T) {
	g := source(22)
	safe, stopped := 0, 0
	for range 300 {
		bound := 1 << between(g, 2, 14)
		l, r := someLimits(g, min(bound/4, 1000), bound), someRun(g, 20, bound)
		speeds, e := fault.Speeds(l, r)
		want(t, "Speeds", list(len(speeds), e), list(len(r.Samples), api.OK))
		for i, p := range placesOf(r) {
			speed := speeds[i]
			if speed > 0 {
				safe++
				faults, e := fault.Exceeded(l, r, speed)
				_, isAny := faultAt(faults, r.First+i)
				want(t, "a fault at the safe speed", list(l, r, speed, isAny, e), list(l, r, speed, false, api.OK))
			}
			if !p.isKnown {
				want(t, "the speed of a hole", list(speed), list(0))
				continue
			}
			stopped++
			limit, e := fault.Limit(l, speed+1)
			if e == api.OK && absolute(p.integer)+l.Band <= limit {
				t.Errorf("the safe speed of %v by %v: got %v, also %v would be safe", p, l, speed, speed+1)
			}
		}
	}
	if safe < 800 || stopped < 800 {
		t.Errorf("too few safe speeds: %v and %v", safe, stopped)
	}
}

// TestMergedPlaces checks that merged faults have the same places and more, that those between are at most as many as the gap, and that a greater gap leaves no more faults.
func TestMergedPlaces(t *testing.T) {
	g := source(23)
	for range 1500 {
		faults := someFaults(g, 20)
		gap := g.IntN(10)
		merged, e := fault.Merged(faults, gap)
		want(t, "the error of Merged", list(e, fault.CheckFaults(merged)), list(api.OK, api.OK))
		isSure, greatest := map[int]bool{}, map[int]int{}
		for _, f := range faults {
			m, isAny := faultAt(merged, f.Span.From)
			if !isAny || m.Span.To < f.Span.To {
				t.Errorf("the faults %v merged by %v: got %v, without %v", faults, gap, merged, f)
			}
			isSure[m.Span.From] = isSure[m.Span.From] || f.Sure
			greatest[m.Span.From] = max(greatest[m.Span.From], absolute(f.Value))
		}
		for i, m := range merged {
			want(t, "what is sure", list(faults, gap, m.Sure, absolute(m.Value)), list(faults, gap, isSure[m.Span.From], greatest[m.Span.From]))
			if i > 0 && m.Span.From-merged[i-1].Span.To <= gap {
				t.Errorf("the faults %v merged by %v: got %v, which are too near", faults, gap, merged)
			}
			free := 0 // successive places in no fault
			for place := m.Span.From; place < m.Span.To; place++ {
				if _, isAny := faultAt(faults, place); isAny {
					free = 0
					continue
				}
				if free++; free > gap {
					t.Errorf("the faults %v merged by %v: got %v, over too many places", faults, gap, merged)
				}
			}
		}
		again, e := fault.Merged(merged, gap)
		want(t, "merged again", list(again, e), list(merged, api.OK))
		fewer, e := fault.Merged(merged, gap+1)
		direct, f := fault.Merged(faults, gap+1)
		want(t, "merged by more", list(fewer, e, f), list(direct, api.OK, api.OK))
	}
}

// TestNoGrowthBeyondItself checks it, and that what has grown has not grown back.
func TestNoGrowthBeyondItself(t *testing.T) {
	g := source(24)
	growths := 0
	for range 1000 {
		bound := 1 << between(g, 2, 14)
		a := someRun(g, 40, bound)
		b, bands := likeRun(g, a, bound/2, bound), someBands(g, bound/16)
		l, e := fault.Grown(a, a, bands)
		want(t, "growth beyond itself", list(a, bands, l, e), list(a, bands, []fault.Growth(nil), api.OK))
		there, e := fault.Grown(a, b, bands)
		for _, back := range [][2]int{bands, {bands[1], bands[0]}} {
			l, f := fault.Grown(b, a, back)
			want(t, "the errors of Grown", list(e, f), list(api.OK, api.OK))
			for _, x := range there {
				growths++
				if slices.ContainsFunc(l, func(y fault.Growth) bool { return x.Span.From < y.Span.To && y.Span.From < x.Span.To }) {
					t.Errorf("the growths from %v to %v: got %v, and %v back", a, b, there, l)
				}
			}
		}
	}
	if growths < 3000 {
		t.Errorf("too few growths: %v", growths)
	}
}

// TestDueNoLater checks that a limit is due no later if the last value is greater, or the limit less.
func TestDueNoLater(t *testing.T) {
	g := source(25)
	earlier := 0
	for range 4000 {
		bound := 1 << between(g, 1, 14)
		a, b := someMeasured(g, 1<<g.IntN(16), bound)
		limit := g.IntN(min(2*bound, 16384) + 1)
		more, less := b, between(g, 0, limit)
		more.Value = between(g, b.Value, min(2*bound, 16384))
		day, e := fault.Due(a, b, limit)
		if e != api.OK {
			want(t, "the error of Due", list(e), list(api.ErrNone))
			day = api.MaxDay + 1
		}
		for i, x := range []struct {
			b     fault.Measured
			limit int
		}{{more, limit}, {b, less}} {
			other, e := fault.Due(a, x.b, x.limit)
			if e == api.ErrNone {
				other = api.MaxDay + 1
			}
			if other > day {
				t.Errorf("Due %v of %v, %v: got %v for %v, and %v for %v", i, a, b, day, limit, other, x)
			}
			if other < day {
				earlier++
			}
		}
	}
	if earlier < 1000 {
		t.Errorf("too few limits are due earlier: %v", earlier)
	}
}

// TestLossyRounds checks that after any rounds the post has applied a beginning of the messages, and what is acknowledged is applied; that after one round in which nothing is lost both agree; and that on a safe line each restriction in force at the office is so at the post, or is withdrawn already.
func TestLossyRounds(t *testing.T) {
	g := source(26)
	incomplete, safe := 0, 0
	for range 1500 {
		o := someOffice(g, 40, 1+g.IntN(8))
		n := len(o.Messages)
		start := postAfter(o, o.Acked+g.IntN(n-o.Acked+1))
		after, p, e := fault.Exchanged(o, start, someRounds(g, 6, n))
		want(t, "Exchanged", list(e, after.Messages), list(api.OK, o.Messages))
		if p.Heard < start.Heard || p.Heard > n || after.Acked < o.Acked || after.Acked > p.Heard {
			t.Errorf("the rounds of %v, %v: got %v, %v", o, start, after, p)
		}
		want(t, "a beginning of the messages", list(o, p), list(o, postAfter(o, p.Heard)))
		if after.Acked < p.Heard && p.Heard < n {
			incomplete++
		}
		isSafe, e := fault.Safe(after)
		want(t, "the error of Safe", list(e), list(api.OK))
		if isSafe {
			safe++
			force, _ := fault.InForce(after)
			for _, r := range force {
				if !slices.Contains(p.Force, r) {
					t.Errorf("the post of the safe office %v: got %v, without %v", after, p, r)
				}
			}
			for place := range 75 {
				speed, e := fault.Allowed(p, place)
				last, f := fault.Allowed(postAfter(o, n), place)
				if e != api.OK || f != api.OK || speed > last {
					t.Errorf("the speed at %v by %v of the safe office %v: got %v, and %v in the end", place, p, after, speed, last)
				}
			}
		}
		complete, p, e := fault.Exchanged(after, p, []fault.Round{{}})
		want(t, "after a round without a loss", list(complete, p, e), list(office(n, o.Messages...), postAfter(o, n), api.OK))
		force, e := fault.InForce(complete)
		want(t, "what is in force at both", list(force, e), list(p.Force, api.OK))
		isSafe, e = fault.Safe(complete)
		want(t, "a line where all is acknowledged", list(isSafe, e), list(true, api.OK))
		l, e := fault.Sent(complete)
		want(t, "what is sent when all is acknowledged", list(l, e), list([]fault.Message(nil), api.OK))
	}
	if incomplete < 200 || safe < 400 {
		t.Errorf("too few lines: %v are incomplete, %v safe", incomplete, safe)
	}
}

// TestRoundsStepByStep checks that rounds are what Sent, Arrived and Acknowledged make of them.
func TestRoundsStepByStep(t *testing.T) {
	g := source(27)
	for range 500 {
		o := someOffice(g, 30, 1+g.IntN(6))
		n := len(o.Messages)
		p := postAfter(o, o.Acked+g.IntN(n-o.Acked+1))
		rounds := someRounds(g, 5, n)
		office, post := o, p
		for _, r := range rounds {
			l, _ := fault.Sent(office)
			answer := post.Heard
			for _, m := range l {
				if !slices.Contains(r.Lost, m.Number) {
					post, answer, _ = fault.Arrived(post, m)
				}
			}
			if !r.Deaf {
				office, _ = fault.Acknowledged(office, answer)
			}
		}
		after, q, e := fault.Exchanged(o, p, rounds)
		want(t, "rounds step by step", list(o, p, rounds, after, q, e), list(o, p, rounds, office, post, api.OK))
	}
}

// TestTextsComeBack checks that posts are parsed as they were printed.
func TestTextsComeBack(t *testing.T) {
	g := source(28)
	for range 1500 {
		o := someOffice(g, 64, 1+g.IntN(26))
		p := postAfter(o, g.IntN(len(o.Messages)+1))
		s, e := fault.Print(p)
		back, line, f := fault.Parse(s)
		want(t, "Parse of Print", list(e, back, line, f), list(api.OK, p, 0, api.OK))
		again, e := fault.Print(back)
		want(t, "Print again", list(again, e), list(s, api.OK))
	}
}
