package possession_test

import (
	"slices"
	"strings"
	"testing"

	"versine/api"
	"versine/possession"
)

// lived returns about n events, each of which Accepts accepts after the others, and visits each one that is accepted.
func lived(seed uint64, n int, visit func(l []api.Event, e api.Event)) []api.Event {
	g := source(seed)
	var l []api.Event
	for range 2 * n {
		e := someEvent(g, len(l)+1, worldOf(counting(l)))
		if possession.Accepts(l, e) != api.OK {
			continue
		}
		visit(l, e)
		l = append(l, e)
	}
	return l
}

// registerOf returns the register after events, which are accepted.
func registerOf(t *testing.T, l []api.Event) possession.Register {
	t.Helper()
	r, _, e := possession.Replay(l)
	want(t, "the error of Replay", list(e), list(api.OK))
	return r
}

// TestTrainsAndPossessions checks that no train is ever on a track with an open possession, nor enters one ahead of a restriction, or above it.
func TestTrainsAndPossessions(t *testing.T) {
	entries, restricted := 0, 0
	for seed := range uint64(30) {
		lived(seed+500, 100, func(l []api.Event, e api.Event) {
			r := registerOf(t, append(slices.Clone(l), e))
			for _, x := range r.Trains {
				for _, p := range r.Possessions {
					if p.Track == x.Track && !p.Returned {
						t.Errorf("the train %v is on a track with the open possession %v after %v, %v", x, p, l, e)
					}
				}
			}
			if e.Kind != "enter" {
				return
			}
			entries++
			for _, f := range r.Faults {
				if f.Track != e.Names[1] || f.Repaired {
					continue
				}
				restricted++
				if !f.Answered || e.Values[1] > f.Speed {
					t.Errorf("the train of %v enters with the fault %v after %v", e, f, l)
				}
			}
		})
	}
	if entries < 100 || restricted < 15 {
		t.Errorf("too few entries: %v, and %v restrictions", entries, restricted)
	}
}

// TestNothingIsLeftInside checks that no possession was given back with anything in it, or without a measurement.
func TestNothingIsLeftInside(t *testing.T) {
	returns := 0
	for seed := range uint64(30) {
		lived(seed+600, 120, func(l []api.Event, e api.Event) {
			before := registerOf(t, l)
			if e.Kind == "return" {
				returns++
				at := slices.IndexFunc(before.Possessions, func(p possession.Possession) bool { return p.Name == e.Names[0] })
				p := before.Possessions[at]
				inside, _ := possession.Inside(l, p.Name)
				want(t, "a possession that is given back", list(p.Protected, p.Open, p.Closed > 0, p.Persons, inside), list(false, false, true, 0, [2]int{}))
				isReady, bad := possession.Ready(l, p.Name)
				want(t, "Ready of it", list(isReady, bad), list(true, api.OK))
			}
			after := registerOf(t, append(slices.Clone(l), e))
			for _, p := range after.Possessions {
				if !p.Returned {
					continue
				}
				isEntered := slices.ContainsFunc(after.Machines, func(m possession.Machine) bool { return m.Possession == p.Name })
				want(t, "a possession that was given back", list(p.Protected, p.Open, p.Closed > 0, p.Persons, isEntered), list(false, false, true, 0, false))
			}
		})
	}
	if returns < 20 {
		t.Errorf("too few returns: %v", returns)
	}
}

// TestReadyPossessions checks that a possession is ready exactly if nothing holds it, and a measurement was closed, and then can be given back.
func TestReadyPossessions(t *testing.T) {
	seen := map[[2]bool]int{}
	for seed := range uint64(30) {
		lived(seed+700, 100, func(l []api.Event, _ api.Event) {
			r := registerOf(t, l)
			for _, p := range r.Possessions {
				isReady, e := possession.Ready(l, p.Name)
				barrier, f := possession.Barrier(l, p.Name)
				if p.Returned {
					want(t, "a possession that is over", list(isReady, e, barrier, f), list(false, api.ErrOver, []string(nil), api.ErrOver))
					continue
				}
				isFree, isMeasured := len(barrier) == 0, p.Closed > 0
				seen[[2]bool{isFree, isMeasured}]++
				want(t, "Ready", list(isReady, e, f), list(isFree && isMeasured, api.OK, api.OK))
				x := event(len(l)+1, "return "+p.Name+" 0")
				x.Values[0] = r.Tick
				want(t, "a return", list(possession.Accepts(l, x) == api.OK), list(isReady))
			}
		})
	}
	if len(seen) != 4 || slices.Min(ints(seen[[2]bool{}], seen[[2]bool{true, true}], seen[[2]bool{true}], seen[[2]bool{false, true}])) < 100 {
		t.Errorf("too few possessions: %v", seen)
	}
}

// TestUndoneEvents checks that an undo leaves the register that was before, and the questions as they were.
func TestUndoneEvents(t *testing.T) {
	undone := map[string]int{}
	for seed := range uint64(60) {
		lived(seed+800, 80, func(l []api.Event, e api.Event) {
			with := append(slices.Clone(l), e)
			undo := event(len(with)+1, "undo")
			if e.Kind == "undo" {
				return
			}
			if e.Kind == "enter" || e.Kind == "return" {
				want(t, "an undo", list(e, possession.Accepts(with, undo)), list(e, api.ErrRule))
				return
			}
			undone[e.Kind]++
			again := append(slices.Clone(with), undo)
			want(t, "a register after an undo", list(e, registerOf(t, again)), list(e, registerOf(t, l)))
			e.Number = len(again) + 1
			want(t, "a register when it happens again", list(e, registerOf(t, append(again, e))), list(e, registerOf(t, with)))
			r, bad := possession.AsOf(again, api.MaxNumber)
			want(t, "AsOf after an undo", list(e, r, bad), list(e, registerOf(t, l), api.OK))
		})
	}
	for _, kind := range kinds() {
		if undone[kind] < 5 && !slices.Contains(words("undo", "enter", "return"), kind) {
			t.Errorf("too few events were undone: %v of %v", undone[kind], kind)
		}
	}
}

// of returns what a register has of a track.
func of(r possession.Register, track string) possession.Register {
	on := map[string]bool{}
	for _, p := range r.Possessions {
		on[p.Name] = p.Track == track
	}
	return possession.Register{
		Tracks:      slices.DeleteFunc(slices.Clone(r.Tracks), func(x possession.Track) bool { return x.Name != track }),
		Faults:      slices.DeleteFunc(slices.Clone(r.Faults), func(x possession.Fault) bool { return x.Track != track }),
		Trains:      slices.DeleteFunc(slices.Clone(r.Trains), func(x possession.Train) bool { return x.Track != track }),
		Possessions: slices.DeleteFunc(slices.Clone(r.Possessions), func(x possession.Possession) bool { return x.Track != track }),
		Machines:    slices.DeleteFunc(slices.Clone(r.Machines), func(x possession.Machine) bool { return !on[x.Possession] }),
	}
}

// TestStoriesOfAllTracks checks that stories are accepted, lead to the same of their track, and have each event that counts once.
func TestStoriesOfAllTracks(t *testing.T) {
	for seed := range uint64(30) {
		l := lived(seed+900, 150, func([]api.Event, api.Event) {})
		r := registerOf(t, l)
		var all []string
		for _, track := range r.Tracks {
			told, e := possession.Story(l, track.Name)
			want(t, "the error of Story", list(e), list(api.OK))
			accepted(t, told)
			alone := registerOf(t, told)
			wanted := of(r, track.Name)
			wanted.Tick = told[len(told)-1].Values[0]
			want(t, "the register of a story", list(track, alone), list(track, wanted))
			permitted, e := possession.Permitted(told, track.Name)
			whole, f := possession.Permitted(l, track.Name)
			want(t, "Permitted of a story", list(track, permitted, e), list(track, whole, f))
			for i, x := range told {
				want(t, "the number", list(x.Number), list(i+1))
				all = append(all, lineOf(x))
			}
		}
		var counts []string
		for _, e := range counting(l) {
			counts = append(counts, lineOf(e))
		}
		slices.Sort(all)
		slices.Sort(counts)
		want(t, "all stories", list(all), list(counts))
	}
}

// TestChangedBytes checks that a log of which a byte is changed to another one, neither of which is a line feed, is not recovered as a whole.
func TestChangedBytes(t *testing.T) {
	for _, log := range words(shownLog(15), logOf(journal("undo", "track "+strings.Repeat("a", 24)+" 999999999 999999999", "undo"))) {
		whole, _, _ := possession.Recover(log)
		for at := range len(log) {
			for b := range 256 {
				if log[at] == '\n' || b == '\n' || int(log[at]) == b {
					continue
				}
				changed := []byte(log)
				changed[at] = byte(b)
				l, n, e := possession.Recover(string(changed))
				if e == api.OK || n >= len(log) || len(l) >= len(whole) || n > at {
					t.Errorf("Recover with the byte %v at %v: got %v events, %v, %v", b, at, len(l), n, e)
				}
			}
		}
	}
}

// TestCrashes checks that after a crash at any byte a session has every event of its whole records, and goes on.
func TestCrashes(t *testing.T) {
	for seed := range uint64(8) {
		l := lived(seed+1000, 40, func([]api.Event, api.Event) {})
		log := logOf(l)
		for cut := range len(log) + 1 {
			n := strings.Count(log[:cut], "\n")
			s, e := possession.Open(log[:cut])
			want(t, "Open", list(cut, s != nil, e), list(cut, true, api.OK))
			want(t, "Events and Log", list(cut, s.Events(), s.Log()), list(cut, l[:n], logOf(l[:n])))
			if n < len(l) && cut%7 == 0 {
				result, e := s.Do(lineOf(l[n]))
				if e != api.OK || !strings.HasPrefix(result, "done ") {
					t.Errorf("Do of the next event after a crash: got %v, %v", result, e)
				}
				want(t, "Events and Log of it", list(cut, s.Events(), s.Log()), list(cut, l[:n+1], logOf(l[:n+1])))
			}
		}
	}
}

// TestAnyCut checks that the events of any prefix lead to the same as those of a session that goes on, and of one that was opened.
func TestAnyCut(t *testing.T) {
	for seed := range uint64(20) {
		s := possession.New()
		var registers []possession.Register
		lived(seed+1100, 80, func(l []api.Event, e api.Event) {
			if _, bad := s.Do(lineOf(e)); bad != api.OK {
				t.Errorf("Do of %v after %v: got %v", e, l, bad)
			}
			more := append(slices.Clone(l), e)
			want(t, "Events", list(s.Events()), list(more))
			back, n, bad := possession.Recover(s.Log())
			want(t, "Recover", list(back, n, bad), list(more, len(s.Log()), api.OK))
			registers = append(registers, registerOf(t, more))
		})
		for i, r := range registers { // whatever came later
			want(t, "the register of a prefix", list(registerOf(t, s.Events()[:i+1])), list(r))
		}
	}
}
