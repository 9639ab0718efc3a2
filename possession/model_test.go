package possession_test

import (
	"maps"
	"slices"

	"versine/api"
	"versine/possession"
)

// world is what events lead to, told in another way than in a register: what there is of a
// thing is in maps by its name.
type world struct {
	tick     int
	names    map[string][]string // of a thing, in their order
	track    map[[2]string]string
	span     map[[2]string]api.Span
	speed    map[[2]string]int
	is       map[[2]string]map[string]bool // answered, repaired, returned, protected, open
	persons  map[string]int
	measured map[string]int
	place    map[string]string // the possession of a machine
}

func newWorld() *world {
	return &world{0, map[string][]string{}, map[[2]string]string{}, map[[2]string]api.Span{}, map[[2]string]int{}, map[[2]string]map[string]bool{}, map[string]int{}, map[string]int{}, map[string]string{}}
}

// has reports whether there is such a thing.
func (w *world) has(thing, name string) bool { return slices.Contains(w.names[thing], name) }

func (w *world) put(thing, name string) {
	w.names[thing] = append(w.names[thing], name)
	w.is[[2]string{thing, name}] = map[string]bool{}
}

func (w *world) drop(thing, name string) {
	w.names[thing] = slices.DeleteFunc(w.names[thing], func(s string) bool { return s == name })
}

func (w *world) set(thing, name, what string, is bool) { w.is[[2]string{thing, name}][what] = is }

func (w *world) holds(thing, name, what string) bool { return w.is[[2]string{thing, name}][what] }

// happen lets an event that counts happen.
func (w *world) happen(e api.Event) {
	n, v := append(slices.Clone(e.Names), "", ""), append(slices.Clone(e.Values), 0, 0, 0)
	w.tick = v[0]
	at := [2]string{"", n[0]}
	switch e.Kind {
	case "track":
		at[0] = "track"
		w.put("track", n[0])
		w.track[at], w.speed[at] = n[0], v[1]
	case "fault":
		at[0] = "fault"
		w.put("fault", n[0])
		w.track[at], w.span[at], w.speed[at] = n[1], span(v[1], v[2]), v[3]
	case "enter":
		at[0] = "train"
		w.put("train", n[0])
		w.track[at], w.speed[at] = n[1], v[1]
	case "take":
		at[0] = "possession"
		w.put("possession", n[0])
		w.track[at], w.span[at], w.speed[at] = n[1], span(v[1], v[2]), 0
	case "in":
		w.put("machine", n[0])
		w.place[n[0]] = n[1]
	case "leave":
		w.drop("train", n[0])
	case "out":
		w.drop("machine", n[0])
	case "answer":
		w.set("fault", n[0], "answered", true)
	case "repair":
		w.set("fault", n[0], "repaired", true)
	case "return":
		w.set("possession", n[0], "returned", true)
	case "protect", "clear":
		w.set("possession", n[0], "protected", e.Kind == "protect")
	case "open", "close":
		w.set("possession", n[0], "open", e.Kind == "open")
	}
	switch e.Kind {
	case "staff":
		w.persons[n[0]] += v[1]
	case "off":
		w.persons[n[0]] -= v[1]
	case "close":
		w.measured[n[0]]++
		fallthrough
	case "raise":
		w.speed[[2]string{"possession", n[0]}] = v[1]
	}
}

// counting returns those of accepted events that count.
func counting(l []api.Event) []api.Event {
	var stack []api.Event
	for _, e := range l {
		if e.Kind == "undo" {
			stack = stack[:len(stack)-1]
			continue
		}
		stack = append(stack, e)
	}
	return stack
}

// worldOf returns what events that count lead to.
func worldOf(l []api.Event) *world {
	w := newWorld()
	for _, e := range l {
		w.happen(e)
	}
	return w
}

// register returns a world as a register.
func (w *world) register() possession.Register {
	r := possession.Register{Tick: w.tick}
	for _, name := range w.names["track"] {
		r.Tracks = append(r.Tracks, possession.Track{Name: name, Speed: w.speed[[2]string{"track", name}]})
	}
	for _, name := range w.names["fault"] {
		at := [2]string{"fault", name}
		r.Faults = append(r.Faults, possession.Fault{Name: name, Track: w.track[at], Span: w.span[at], Speed: w.speed[at], Answered: w.is[at]["answered"], Repaired: w.is[at]["repaired"]})
	}
	for _, name := range w.names["train"] {
		at := [2]string{"train", name}
		r.Trains = append(r.Trains, possession.Train{Name: name, Track: w.track[at], Speed: w.speed[at]})
	}
	for _, name := range w.names["possession"] {
		at := [2]string{"possession", name}
		r.Possessions = append(r.Possessions, possession.Possession{
			Name: name, Track: w.track[at], Span: w.span[at], Returned: w.is[at]["returned"], Protected: w.is[at]["protected"],
			Open: w.is[at]["open"], Closed: w.measured[name], Persons: w.persons[name], Speed: w.speed[at],
		})
	}
	for _, name := range w.names["machine"] {
		r.Machines = append(r.Machines, possession.Machine{Name: name, Possession: w.place[name]})
	}
	return r
}

// of returns the names of a thing that are on a track, in their order.
func (w *world) of(thing, track string) []string {
	var l []string
	for _, name := range w.names[thing] {
		if w.track[[2]string{thing, name}] == track {
			l = append(l, name)
		}
	}
	return l
}

func (w *world) isSilent(fault string) bool {
	return !w.holds("fault", fault, "repaired") && !w.holds("fault", fault, "answered")
}

func (w *world) isOpen(p string) bool { return !w.holds("possession", p, "returned") }

// silent returns the silent faults, taken the open possessions.
func (w *world) silent() []string {
	return slices.DeleteFunc(slices.Clone(w.names["fault"]), func(f string) bool { return !w.isSilent(f) })
}

func (w *world) taken() []string {
	return slices.DeleteFunc(slices.Clone(w.names["possession"]), func(p string) bool { return !w.isOpen(p) })
}

// permitted returns the least speed of all those that the chapter names.
func (w *world) permitted(track string) int {
	line := w.speed[[2]string{"track", track}]
	all := ints(line)
	for _, f := range w.of("fault", track) {
		if !w.holds("fault", f, "repaired") && w.holds("fault", f, "answered") {
			all = append(all, w.speed[[2]string{"fault", f}])
		}
	}
	for _, p := range w.of("possession", track) {
		if speed := w.speed[[2]string{"possession", p}]; !w.isOpen(p) && speed < line {
			all = append(all, speed)
		}
	}
	return slices.Min(all)
}

// blocked returns the spans of open possessions, by all places.
func (w *world) blocked(track string) []api.Span {
	by := map[int]api.Span{}
	for _, p := range w.of("possession", track) {
		if s := w.span[[2]string{"possession", p}]; w.isOpen(p) {
			by[s.From] = s
		}
	}
	var l []api.Span
	for _, from := range slices.Sorted(maps.Keys(by)) {
		l = append(l, by[from])
	}
	return l
}

// machines returns the machines in a possession.
func (w *world) machines(p string) []string {
	var l []string
	for _, m := range w.names["machine"] {
		if w.place[m] == p {
			l = append(l, m)
		}
	}
	return l
}

// barrier returns what holds a possession.
func (w *world) barrier(p string) []string {
	l := w.machines(p)
	if w.persons[p] != 0 {
		l = append(l, "staff")
	}
	if w.holds("possession", p, "open") {
		l = append(l, "measurement")
	}
	if w.holds("possession", p, "protected") {
		l = append(l, "protection")
	}
	return l
}

// about returns the track that an event is about, in the world before it.
func (w *world) about(e api.Event) string {
	switch e.Kind {
	case "track":
		return e.Names[0]
	case "fault", "enter", "take":
		return e.Names[1]
	case "answer", "repair":
		return w.track[[2]string{"fault", e.Names[0]}]
	case "leave":
		return w.track[[2]string{"train", e.Names[0]}]
	case "in":
		return w.track[[2]string{"possession", e.Names[1]}]
	case "out":
		return w.track[[2]string{"possession", w.place[e.Names[0]]}]
	}
	return w.track[[2]string{"possession", e.Names[0]}]
}

// story returns the story of a track, of events that count.
func story(l []api.Event, track string) []api.Event {
	var out []api.Event
	w := newWorld()
	for _, e := range l {
		if w.about(e) == track {
			x := event(len(out)+1, lineOf(e))
			out = append(out, x)
		}
		w.happen(e)
	}
	return out
}

// refusal returns the error with which an event without one of its own is not accepted after others, as the chapter says it.
func refusal(l []api.Event, e api.Event) api.Errno {
	counts := counting(l)
	switch {
	case len(l) > 0 && e.Number != l[len(l)-1].Number+1, len(l) == 0 && e.Number != 1:
		return api.ErrOrder
	case e.Kind == "undo" && len(counts) == 0:
		return api.ErrEmpty
	case e.Kind == "undo" && (counts[len(counts)-1].Kind == "enter" || counts[len(counts)-1].Kind == "return"):
		return api.ErrRule
	case e.Kind == "undo":
		return api.OK
	}
	return worldOf(counts).refusal(e)
}

// refusal returns the error with which an event other than undo is not accepted, but for its number.
func (w *world) refusal(e api.Event) api.Errno {
	if e.Values[0] < w.tick {
		return api.ErrState
	}
	for i, thing := range shapes()[e.Kind].names {
		if thing[0] != '+' && !w.has(thing, e.Names[i]) {
			return api.ErrUnknown
		}
	}
	for i, thing := range shapes()[e.Kind].names {
		if thing[0] == '+' && w.has(thing[1:], e.Names[i]) {
			return api.ErrTwice
		}
	}
	switch e.Kind {
	case "track", "fault", "answer", "repair", "enter", "take", "raise":
		return w.refusalOfTrack(e)
	case "leave", "out":
		return api.OK
	}
	return w.refusalOfPossession(e)
}

// isSpan reports whether a span is one that a fault and a possession may have.
func isSpan(s api.Span) bool { return s.From < s.To && s.To <= 100000000 }

// shares reports whether two spans have a place in common.
func shares(a, b api.Span) bool {
	return isSpan(a) && isSpan(b) && !(a.To <= b.From || b.To <= a.From)
}

func (w *world) refusalOfTrack(e api.Event) api.Errno {
	name, v := e.Names[0], e.Values
	switch e.Kind {
	case "track":
		if v[1] < 1 || v[1] > 400 {
			return api.ErrRange
		}
		if len(w.names["track"]) == 8 {
			return api.ErrMany
		}
	case "fault":
		if !isSpan(span(v[1], v[2])) {
			return api.ErrSpan
		}
		if v[3] > 400 {
			return api.ErrRange
		}
		if len(w.names["fault"]) == 64 {
			return api.ErrMany
		}
	case "answer":
		if w.holds("fault", name, "repaired") {
			return api.ErrOver
		}
		if w.holds("fault", name, "answered") {
			return api.ErrTwice
		}
	case "repair":
		if w.holds("fault", name, "repaired") {
			return api.ErrOver
		}
		p, at, of := e.Names[1], [2]string{"fault", name}, [2]string{"possession", e.Names[1]}
		if !w.isOpen(p) || w.track[at] != w.track[of] || w.span[at].From < w.span[of].From || w.span[at].To > w.span[of].To {
			return api.ErrRule
		}
		if len(w.machines(p)) == 0 && w.persons[p] == 0 {
			return api.ErrEmpty
		}
	case "enter":
		if len(w.blocked(e.Names[1])) > 0 {
			return api.ErrHeld
		}
		if slices.ContainsFunc(w.of("fault", e.Names[1]), w.isSilent) {
			return api.ErrOpen
		}
		if v[1] == 0 || v[1] > w.permitted(e.Names[1]) {
			return api.ErrLimit
		}
		if len(w.names["train"]) == 16 {
			return api.ErrMany
		}
	case "take":
		if !isSpan(span(v[1], v[2])) {
			return api.ErrSpan
		}
		if len(w.of("train", e.Names[1])) > 0 {
			return api.ErrHeld
		}
		for _, s := range w.blocked(e.Names[1]) {
			if shares(s, span(v[1], v[2])) {
				return api.ErrOverlap
			}
		}
		if len(w.names["possession"]) == 16 {
			return api.ErrMany
		}
	case "raise":
		if w.isOpen(name) {
			return api.ErrState
		}
		if v[1] > 400 {
			return api.ErrRange
		}
		if v[1] <= w.speed[[2]string{"possession", name}] {
			return api.ErrRule
		}
	}
	return api.OK
}

// first returns the first error of which the condition holds.
func first(l ...any) api.Errno {
	for pair := range slices.Chunk(l, 2) {
		if pair[0].(bool) {
			return pair[1].(api.Errno)
		}
	}
	return api.OK
}

func (w *world) refusalOfPossession(e api.Event) api.Errno {
	p, n := e.Names[len(e.Names)-1], append(slices.Clone(e.Values), 0)[1]
	if !w.isOpen(p) {
		return api.ErrOver
	}
	isProtected, isOpen := w.holds("possession", p, "protected"), w.holds("possession", p, "open")
	isEmpty := len(w.machines(p)) == 0 && w.persons[p] == 0
	switch e.Kind {
	case "protect":
		return first(isProtected, api.ErrTwice)
	case "clear":
		return first(!isProtected, api.ErrState, !isEmpty, api.ErrOpen)
	case "in":
		return first(!isProtected, api.ErrRule, len(w.names["machine"]) == 16, api.ErrMany)
	case "staff":
		return first(n < 1 || n > 100, api.ErrRange, !isProtected, api.ErrRule, w.persons[p]+n > 100, api.ErrLarge)
	case "off":
		return first(n < 1 || n > 100, api.ErrRange, w.persons[p] < n, api.ErrShort)
	case "open":
		return first(isOpen, api.ErrTwice, w.measured[p] == 8, api.ErrMany)
	case "close":
		return first(n < 1 || n > 400, api.ErrRange, !isOpen, api.ErrState)
	}
	return first(len(w.barrier(p)) > 0, api.ErrOpen, w.measured[p] == 0, api.ErrNone)
}
