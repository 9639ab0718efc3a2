package possession_test

import (
	"math/rand/v2"
	"slices"
	"strconv"
	"strings"
	"testing"

	"versine/api"
	"versine/possession"
)

// someName returns the name of a thing in a world more often than any one.
func someName(g *rand.Rand, w *world, thing string) string {
	if l := w.names[thing]; len(l) > 0 && g.IntN(12) > 0 {
		return oneOf(g, l)
	}
	return thing[:1] + strconv.Itoa(g.IntN(20))
}

// someNew returns a name that is new more often than any one.
func someNew(g *rand.Rand, w *world, thing string) string {
	for i := range 70 {
		if name := thing[:1] + strconv.Itoa(i); !w.has(thing, name) {
			if g.IntN(12) > 0 {
				return name
			}
			break
		}
	}
	return someName(g, w, thing)
}

// someKind returns a kind, of which those that open something come more often than the others.
func someKind(g *rand.Rand) string {
	often := strings.Fields("fault answer answer answer repair repair repair enter enter enter enter leave leave leave leave take take protect protect protect in in in out out out staff staff off off open open close close close return return return return raise raise raise clear clear clear undo")
	if g.IntN(8) == 0 {
		return oneOf(g, kinds())
	}
	return oneOf(g, often)
}

// someSpeed returns a speed, which has an error at times, somePersons a number of persons.
func someSpeed(g *rand.Rand) int { return oneOf(g, ints(0, 0, 1, 20, 40, 60, 80, 100, 120, 400, 401)) }

func somePersons(g *rand.Rand, w *world, p string) int {
	if g.IntN(2) == 0 { // all of them come out
		return max(w.persons[p], 1)
	}
	return oneOf(g, ints(0, 1, 2, 5, 60, 100, 101))
}

// someValues returns values of an event of a kind.
func someValues(g *rand.Rand, kind string, names []string, w *world) []int {
	l := ints(max(0, w.tick+oneOf(g, ints(0, 0, 0, 0, 0, 1, 1, 2, 5, -1))))
	switch kind {
	case "fault", "take":
		from, lengths := g.IntN(30), ints(-1, 0, 1, 2, 3, 4, 5)
		if kind == "take" {
			from, lengths = g.IntN(20), ints(0, 1, 5, 10, 15, 20)
		}
		to := max(0, from+oneOf(g, lengths))
		if g.IntN(40) == 0 {
			to = 100000001
		}
		l = append(l, from, to)
	}
	switch kind {
	case "fault", "track", "enter", "close", "raise":
		l = append(l, someSpeed(g))
	case "staff", "off":
		l = append(l, somePersons(g, w, names[0]))
	}
	return l
}

// someOf returns an event of a kind other than undo, which has no error by itself.
func someOf(g *rand.Rand, kind string, number int, w *world) api.Event {
	e := api.Event{Number: number, Kind: kind}
	for _, thing := range shapes()[kind].names {
		if name, isNew := strings.CutPrefix(thing, "+"); isNew {
			e.Names = append(e.Names, someNew(g, w, name))
			continue
		}
		e.Names = append(e.Names, someName(g, w, thing))
	}
	e.Values = someValues(g, kind, e.Names, w)
	return e
}

// someEvent returns an event, which is accepted in a world more often than not, and has no error by itself.
func someEvent(g *rand.Rand, number int, w *world) api.Event {
	kind := someKind(g)
	switch few := len(w.names["track"]) < 2; {
	case number == 1 && g.IntN(4) == 0:
		kind = "undo"
	case few:
		kind = "track"
	}
	if kind == "undo" {
		return event(number, kind)
	}
	e := someOf(g, kind, number, w)
	for range oneOf(g, ints(0, 12)) {
		if w.refusal(e) != api.OK {
			e = someOf(g, kind, number, w)
		}
	}
	if g.IntN(60) == 0 {
		e.Number = max(1, e.Number+oneOf(g, ints(-1, 1, 2)))
	}
	return e
}

// someJournal returns about n events, one after the other accepted by the chapter's rules, and visits each one that was to be added, with the error that it has.
func someJournal(g *rand.Rand, n int, visit func(l []api.Event, e api.Event, bad api.Errno)) []api.Event {
	var l []api.Event
	for range 2 * n {
		e := someEvent(g, len(l)+1, worldOf(counting(l)))
		bad := refusal(l, e)
		visit(l, e, bad)
		if bad == api.OK {
			l = append(l, e)
		}
		if len(l) == n {
			break
		}
	}
	return l
}

// journals returns some journals.
func journals(seed uint64, n, events int) [][]api.Event {
	g := source(seed)
	var all [][]api.Event
	for range n {
		all = append(all, someJournal(g, between(g, 1, events), func([]api.Event, api.Event, api.Errno) {}))
	}
	return all
}

// refusals are the errors of each kind that small journals have, in the chapter's words of them.
const refusals = `track 0 9 3; fault 0 10 9 14 3; answer 0 10 23 9; repair 0 10 23 21 12; enter 0 10 9 31 32 20; leave 0 10; take 0 10 9 14 31 15;
protect 0 10 23 9; clear 0 10 23 22 32; in 0 10 9 23 21; out 0 10; staff 0 10 23 3 21 4; off 0 10 23 3 16; open 0 10 23 9; close 0 10 23 3 22; return 0 10 23 32 7; raise 0 10 22 3 21; undo 0 21 12`

// TestJournals checks what is accepted, and the registers of all events, against the model.
func TestJournals(t *testing.T) {
	seen := map[string]int{}
	for seed := range uint64(50) {
		g := source(seed)
		someJournal(g, 120, func(l []api.Event, e api.Event, bad api.Errno) {
			seen[e.Kind+" "+strconv.Itoa(int(bad))]++
			want(t, "Accepts", list(seed, len(l), e, possession.Accepts(l, e)), list(seed, len(l), e, bad))
			more := append(slices.Clone(l), e)
			r, n, got := possession.Replay(more)
			if bad != api.OK {
				want(t, "Replay", list(seed, len(l), e, r, n, got), list(seed, len(l), e, possession.Register{}, len(more), bad))
				return
			}
			want(t, "Replay", list(seed, len(l), e, r, n, got), list(seed, len(l), e, worldOf(counting(more)).register(), 0, api.OK))
		})
	}
	for of := range strings.SplitSeq(refusals, ";") {
		l := strings.Fields(of)
		for _, e := range l[1:] {
			if n := seen[l[0]+" "+e]; n < 3 {
				t.Errorf("too few events %v have the error %v: %v", l[0], e, n)
			}
		}
	}
}

// TestAsOf checks the registers of all ticks against the model.
func TestAsOf(t *testing.T) {
	for i, l := range journals(200, 25, 120) {
		counts := counting(l)
		for tick := range 160 {
			var before []api.Event
			for _, e := range counts {
				if e.Values[0] <= tick {
					before = append(before, e)
				}
			}
			r, e := possession.AsOf(l, tick)
			want(t, "AsOf", list(i, tick, r, e), list(i, tick, worldOf(before).register(), api.OK))
		}
		r, e := possession.AsOf(l, api.MaxNumber)
		whole, _, _ := possession.Replay(l)
		want(t, "AsOf of the last tick", list(i, r, e), list(i, whole, api.OK))
	}
	r, e := possession.AsOf(nil, 0)
	want(t, "AsOf of nothing", list(r, e), list(possession.Register{}, api.OK))
	l := words("track a 5 9", "track b 5 9", "track c 7 9", "undo")
	for _, x := range [][2]int{{0, 0}, {4, 0}, {5, 2}, {6, 2}, {7, 2}, {999999999, 2}} {
		r, e := possession.AsOf(journal(l...), x[0])
		want(t, "AsOf", list(x[0], len(r.Tracks), e), list(x[0], x[1], api.OK))
	}
}

// TestQuestions checks all that is asked of journals against the model.
func TestQuestions(t *testing.T) {
	seen := map[string]int{}
	for i, l := range journals(201, 200, 130) {
		counts := counting(l)
		w := worldOf(counts)
		silent, e := possession.Silent(l)
		want(t, "Silent", list(i, silent, e), list(i, w.silent(), api.OK))
		for _, track := range w.names["track"] {
			speed, e := possession.Permitted(l, track)
			want(t, "Permitted", list(i, speed, e), list(i, w.permitted(track), api.OK))
			spans, e := possession.Blocked(l, track)
			want(t, "Blocked", list(i, spans, e), list(i, w.blocked(track), api.OK))
			told, e := possession.Story(l, track)
			want(t, "Story", list(i, track, told, e), list(i, track, story(counts, track), api.OK))
			wanted := first(len(w.blocked(track)) > 0, api.ErrHeld, slices.ContainsFunc(w.of("fault", track), w.isSilent), api.ErrOpen, w.permitted(track) == 0, api.ErrNone)
			next, e := possession.Next(l, track)
			if wanted != api.OK {
				speed = 0
			}
			want(t, "Next", list(i, next, e), list(i, speed, wanted))
			seen["Next "+strconv.Itoa(int(wanted))]++
			if len(spans) > 1 {
				seen["spans"]++
			}
		}
		for _, p := range w.names["possession"] {
			wanted := first(!w.isOpen(p), api.ErrOver)
			var barrier []string
			isReady := false
			if wanted == api.OK {
				barrier = w.barrier(p)
				isReady = len(barrier) == 0 && w.measured[p] > 0
			}
			got, e := possession.Barrier(l, p)
			ready, f := possession.Ready(l, p)
			inside, g := possession.Inside(l, p)
			want(t, "Barrier, Ready and Inside", list(i, got, e, ready, f, inside, g), list(i, barrier, wanted, isReady, wanted, [2]int{len(w.machines(p)), w.persons[p]}, api.OK))
			seen["Barrier "+strconv.Itoa(int(wanted))]++
			if isReady {
				seen["ready"]++
			}
			if len(barrier) > 3 {
				seen["held"]++
			}
		}
	}
	for _, what := range words("Next 0", "Next 31", "Next 32", "Next 7", "Barrier 0", "Barrier 23", "spans", "ready", "held") {
		if seen[what] < 5 {
			t.Errorf("too few questions: %v of %v", seen[what], what)
		}
	}
}
